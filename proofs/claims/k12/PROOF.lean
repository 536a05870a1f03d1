import PyProof.Rows.All
import Wide.All
import OpenK.AllK
import Wide.FinOn
import Lean
import PyProof.EqAt
import PyProof.EqKinds
import PyProof.TupleCall
import PySem.Challenge.RW_postnet_k12_lines_refused
set_option Elab.async false
set_option linter.all false
set_option maxRecDepth 100000
/-! THE HAND LAYER, for ints, bools, texts, own classes, LISTS and tuples (index, slices, in, append, pop ..), calls, loops. Paste it whole ahead of your own text; what your proof does not reach may be deleted. -/
namespace L2
open PySem PySem.Spec PyProof.Rows

/-- a key: an int or a str -/
abbrev Key := Sum Int Str
def keyIs : Key → Value → Bool
  | .inl k, v => Value.isInt k v
  | .inr x, v => Value.isStrOf x v
def keyH (w : World) : Key → Int
  | .inl k => hashInt k
  | .inr x => hashStr w x
theorem keyIs_shape : ∀ {k : Key} {v : Value}, keyIs k v = true → (∃ i t, k = Sum.inl i ∧ v = Value.int i t) ∨ (∃ x t, k = Sum.inr x ∧ v = Value.str x t)
  | .inl i, v, h => by
    obtain ⟨t, e⟩ := Value.isInt_shape (k := i) (v := v) h
    exact .inl ⟨i, t, rfl, e⟩
  | .inr x, v, h => by
    obtain ⟨t, e⟩ := Value.isStrOf_shape (x := x) (v := v) h
    exact .inr ⟨x, t, rfl, e⟩
theorem key_ll (a b : Int) : decide ((Sum.inl a : Key) = Sum.inl b) = (a == b) := by
  by_cases e : a = b
  · subst e; simp
  · have h : ¬ (Sum.inl a : Key) = Sum.inl b := fun q => e (Sum.inl.inj q)
    rw [decide_eq_false h]
    exact (beq_eq_false_iff_ne.mpr e).symm
theorem key_rr (a b : Str) : decide ((Sum.inr a : Key) = Sum.inr b) = decide (a = b) := by
  by_cases e : a = b
  · subst e; simp
  · have h : ¬ (Sum.inr a : Key) = Sum.inr b := fun q => e (Sum.inr.inj q)
    rw [decide_eq_false h, decide_eq_false e]
theorem key_lr (a : Int) (b : Str) : decide ((Sum.inl a : Key) = Sum.inr b) = false := decide_eq_false (fun q => nomatch q)
theorem key_rl (a : Str) (b : Int) : decide ((Sum.inr a : Key) = Sum.inl b) = false := decide_eq_false (fun q => nomatch q)

def mixKind (prog : Program) (w : World) : PySem.KeyKind prog w Key where
  is := keyIs
  hash := keyH w
  inj := fun v a b ha hb => by
    rcases keyIs_shape ha with ⟨i, t, rfl, rfl⟩ | ⟨x, t, rfl, rfl⟩
    · rcases keyIs_shape hb with ⟨j, u, rfl, e⟩ | ⟨y, u, rfl, e⟩
      · injection e with e1 _; rw [e1]
      · exact nomatch e
    · rcases keyIs_shape hb with ⟨j, u, rfl, e⟩ | ⟨y, u, rfl, e⟩
      · exact nomatch e
      · injection e with e1 _; rw [e1]
  byValue := fun k v h => by
    rcases keyIs_shape h with ⟨i, t, rfl, rfl⟩ | ⟨x, t, rfl, rfl⟩ <;> rfl
  pyHash := fun hv h => by
    rcases keyIs_shape hv with ⟨i, t, rfl, rfl⟩ | ⟨x, t, rfl, rfl⟩
    · exact wpAny_pyHash_int h
    · exact wpAny_pyHash_str h
  eqBool := fun hu hv h => by
    rcases keyIs_shape hu with ⟨i, t, rfl, rfl⟩ | ⟨x, t, rfl, rfl⟩
    · rcases keyIs_shape hv with ⟨j, u, rfl, rfl⟩ | ⟨y, u, rfl, rfl⟩
      · rw [key_ll] at h; exact wpAny_eqBool_int h
      · rw [key_lr] at h; exact SeqAt.EqAt.int_str i t y u _ _ _ _ h
    · rcases keyIs_shape hv with ⟨j, u, rfl, rfl⟩ | ⟨y, u, rfl, rfl⟩
      · rw [key_rl] at h; exact SeqAt.EqAt.str_int x t j u _ _ _ _ h
      · rw [key_rr] at h; exact wpAny_eqBool_str h
  «strs» := fun k x t v h => by
    rcases keyIs_shape h with ⟨i, u, rfl, e⟩ | ⟨y, u, rfl, e⟩
    · exact nomatch e
    · injection e with e1 _
      subst e1
      cases v <;> rfl

end L2

namespace L2
open PySem PySem.Spec PyProof.Rows

/-- a value, without the heap -/
inductive V where
  | non | bl (b : Bool) | int (i : Int) | str (x : Str) | byt (b : Array UInt8) | flt (b : UInt64) | ref (a : Addr) | ty (n : String)
  deriving DecidableEq

def RelV : V → Value → Prop
  | .non, u => u = Value.none
  | .bl b, u => u = Value.bool b
  | .int i, u => ∃ t, u = Value.int i t
  | .str x, u => ∃ t, u = Value.str x t
  | .byt b, u => ∃ t, u = Value.bytes b t
  | .flt b, u => ∃ t, u = Value.float b t
  | .ref a, u => u = Value.ref a
  | .ty n, u => u = Value.type n

abbrev Vals : List V → List Value → Prop := Paired RelV
theorem Vals.length {xs : List V} {us : List Value} (r : Vals xs us) : xs.length = us.length := Paired.length r
theorem Vals.get : ∀ {xs : List V} {us : List Value} {i : Nat} {x : V}, Vals xs us → xs[i]? = some x → ∃ u, us[i]? = some u ∧ RelV x u
  | _, _, _, _, .nil, e => by simp at e
  | _, _, 0, _, .cons r _, e => by simp at e; subst e; exact ⟨_, rfl, r⟩
  | _, _, i + 1, x, .cons _ t, e => by
    obtain ⟨u, h1, h2⟩ := Vals.get (i := i) (x := x) t (by simpa using e)
    exact ⟨u, by simpa using h1, h2⟩
theorem Vals.append : ∀ {xs ys : List V} {us ws : List Value}, Vals xs us → Vals ys ws → Vals (xs ++ ys) (us ++ ws)
  | _, _, _, _, .nil, s => s
  | _, _, _, _, .cons r t, s => .cons r (Vals.append t s)
theorem Vals.take : ∀ {xs : List V} {us : List Value} (n : Nat), Vals xs us → Vals (xs.take n) (us.take n)
  | _, _, 0, _ => .nil
  | _, _, _ + 1, .nil => .nil
  | _, _, n + 1, .cons r t => .cons r (Vals.take n t)
theorem Vals.drop : ∀ {xs : List V} {us : List Value} (n : Nat), Vals xs us → Vals (xs.drop n) (us.drop n)
  | _, _, 0, r => r
  | _, _, _ + 1, .nil => .nil
  | _, _, n + 1, .cons _ t => Vals.drop n t

def RelO : Option V → Option Value → Prop
  | some v, some u => RelV v u
  | none, none => True
  | _, _ => False
def KV {κ : Type} : List (κ × V) → List (κ × Value) → Prop := Paired fun (p : κ × V) (q : κ × Value) => p.1 = q.1 ∧ RelV p.2 q.2

/-- a key of a dict (00_mix): an int or a text -/
def kV : Key → V
  | .inl i => .int i
  | .inr x => .str x

/-- what stands at a tracked address -/
inductive HO where
  /-- a list -/
  | lst (xs : List V)
  /-- a tuple (never changes) -/
  | tup (xs : List V)
  /-- a dict whose keys are ints and texts; one whose keys are tuples of ints and texts (the empty one is both) -/
  | dK (kvs : List (Key × V)) | dT (kvs : List (List Key × V))
  /-- a set of ints: its members, its size -/
  | set (S : Int → Bool) (n : Nat)
  /-- an instance of the class at C, its dict at dx, its attributes -/
  | ins (C dx : Addr) (fs : List (Str × V))
  /-- the dict of the instance at x -/
  | own (x : Addr)
  /-- the dict of an exception -/
  | xd (fs : List (Str × V))
  /-- a bound method, f of x -/
  | met (f x : Addr)
  /-- a range object lo, lo + 1, .. below hi -/
  | rng (lo hi : Int)
  /-- a thing that is known to the object (the script; a dict while a loop walks it): read, never written while it is so -/
  | frz (o : Obj) (u : HO)
  /-- a code object's table -/
  | tbl (ps : Array Value)
  /-- any other thing, by what is true of its one object (a def of one's own: SetO a S n := HO.ext fun h => ..) -/
  | ext (φ : Heap → Prop)

abbrev Hp := Addr → Option HO
def upd (H : Hp) (a : Addr) (o : HO) : Hp := fun b => if b = a then some o else H b
theorem upd_same {H : Hp} {a : Addr} {o : HO} : upd H a o a = some o := by unfold upd; rw [if_pos rfl]
theorem upd_ne {H : Hp} {a b : Addr} {o : HO} (h : b ≠ a) : upd H a o b = H b := by unfold upd; rw [if_neg h]
/-- two objects of different content stand apart -/
theorem ne_of {H : Hp} {a b : Addr} {o u : HO} (h : H a = some o) (h' : H b = some u) (d : o ≠ u) : a ≠ b := by
  intro e; subst e; rw [h] at h'; exact d (Option.some.inj h')
theorem ne_of_none {H : Hp} {a b : Addr} {o : HO} (h : H a = some o) (h' : H b = none) : a ≠ b := by
  intro e; subst e; rw [h] at h'; cases h'

section
variable (P : Program) (w : World)
def ObjOk (H : Hp) (h : Heap) (a : Addr) : HO → Prop
  | .lst xs => xs.length ≤ sizeLine ∧ ∃ (its : List Value) (n : Nat), Vals xs its ∧ h.get? a = some { cls := .type "list", data := .seq its.toArray n }
  | .tup xs => xs.length ≤ sizeLine ∧ ∃ its : List Value, Vals xs its ∧ IsTup h a its.toArray
  | .dK kvs => kvs.length ≤ sizeLine ∧ (a == sysModules) = false ∧ ∃ vs, KV kvs vs ∧ h.DictOf (mixKind P w) a vs
  | .dT kvs => kvs.length ≤ sizeLine ∧ (a == sysModules) = false ∧ ∃ xs : List (List Key × Addr × Value),
      Paired (fun (p : List Key × V) (q : List Key × Addr × Value) => p.1 = q.1 ∧ H q.2.1 = some (.tup (p.1.map kV)) ∧ RelV p.2 q.2.2) kvs xs ∧
      ∃ o es ep, h.get? a = some o ∧ o.ExactDict ∧ o.data = .dict es ep ∧ es.toList = xs.map (entryOfKey (tupleKind (mixKind P w))) ∧ (xs.map (·.1)).Nodup
  | .set S n => h.SetOf (intKind P w) a S n
  | .ins C dx fs => H dx = some (.own a) ∧ fs.length ≤ 1000 ∧ dx ≠ a ∧ h.get? a = some (PySem.W.instObj C dx) ∧
      ∃ mA, h.Ns1 dx mA ∧ (∀ f, RelO (fs.lookup f) (mA f)) ∧ PySem.Within mA (fs.map (·.1))
  | .own _ => ∃ o, h.get? a = some o
  | .xd fs => ∃ mA, h.Ns1 a mA ∧ ∀ f, RelO (fs.lookup f) (mA f)
  | .rng lo hi => ∃ t u v, h.get? a = some { cls := .type "range", data := .fields #[.int lo t, .int hi u, .int 1 v] }
  | .frz o u => h.get? a = some o ∧ ObjOk H h a u
  | .tbl ps => h.get? a = some { cls := .none, data := .fields ps }
  | .met f x => h.get? a = some (PySem.W.methodObj (.ref f) (.ref x))
  | .ext φ => φ h ∧ (∃ o, h.get? a = some o) ∧ ∀ h1 h2 : Heap, φ h1 → (∀ o, h1.get? a = some o → h2.get? a = some o) → φ h2
/-- the abstract heap is held -/
def HOk (H : Hp) (h : Heap) : Prop := ∀ a o, H a = some o → ObjOk P w H h a o
end

section
variable {P : Program} {w : World} {H H' : Hp} {h h' : Heap} {a : Addr} {o : HO}
theorem ObjOk.lt (x : ObjOk P w H h a o) : a < h.objs.size := by
  cases o with
  | lst xs => obtain ⟨_, _, _, _, e⟩ := x; exact Heap.lt_size e
  | tup xs => obtain ⟨_, _, _, p⟩ := x; exact p.lt
  | dK kvs => obtain ⟨_, _, _, _, o, _, _, e, _⟩ := x; exact Heap.lt_size e
  | dT kvs => obtain ⟨_, _, _, _, o, _, _, e, _⟩ := x; exact Heap.lt_size e
  | set S n => obtain ⟨o, _, _, _, e, _⟩ := x; exact Heap.lt_size e
  | ins C dx fs => obtain ⟨_, _, _, e, _⟩ := x; exact Heap.lt_size e
  | own y => obtain ⟨_, e⟩ := x; exact Heap.lt_size e
  | xd fs => obtain ⟨_, ⟨_, _, _, e, _⟩, _⟩ := x; exact Heap.lt_size e
  | rng lo hi => obtain ⟨_, _, _, e⟩ := x; exact Heap.lt_size e
  | frz ob u => obtain ⟨e, _⟩ := x; exact Heap.lt_size e
  | tbl ps => exact Heap.lt_size (show h.get? a = some _ from x)
  | met f y => exact Heap.lt_size (show h.get? a = some _ from x)
  | ext φ => obtain ⟨_, ⟨_, e⟩, _⟩ := x; exact Heap.lt_size e
theorem Paired.mapP {α β : Type} {F G : α → β → Prop} : ∀ {l₁ : List α} {l₂ : List β}, Paired F l₁ l₂ → (∀ a b, F a b → G a b) → Paired G l₁ l₂
  | _, _, .nil, _ => .nil
  | _, _, .cons r t, f => .cons (f _ _ r) (Paired.mapP t f)
/-- what an object's description leans on: its own object, its own dict, the tuples -/
theorem ObjOk.stay (x : ObjOk P w H h a o) (k : ∀ b u, (b = a ∨ H b = some (.own a)) → h.get? b = some u → h'.get? b = some u)
    (ho : ∀ b, H b = some (.own a) → H' b = some (.own a)) (ht : ∀ b xs, H b = some (.tup xs) → H' b = some (.tup xs)) : ObjOk P w H' h' a o := by
  induction o with
  | lst xs => obtain ⟨z, its, n, r, e⟩ := x; exact ⟨z, its, n, r, k _ _ (.inl rfl) e⟩
  | tup xs => obtain ⟨z, its, r, ob, e, c⟩ := x; exact ⟨z, its, r, ob, k _ _ (.inl rfl) e, c⟩
  | dK kvs => obtain ⟨z, y, vs, r, ob, es, ep, e, c⟩ := x; exact ⟨z, y, vs, r, ob, es, ep, k _ _ (.inl rfl) e, c⟩
  | dT kvs =>
    obtain ⟨z, y, xs, r, ob, es, ep, e, c⟩ := x
    exact ⟨z, y, xs, Paired.mapP r fun p q z => ⟨z.1, ht _ _ z.2.1, z.2.2⟩, ob, es, ep, k _ _ (.inl rfl) e, c⟩
  | set S n => obtain ⟨ob, es, ep, t, e, c⟩ := x; exact ⟨ob, es, ep, t, k _ _ (.inl rfl) e, c⟩
  | ins C dx fs =>
    obtain ⟨d, z, ne, e, mA, ⟨od, es, ep, e2, c⟩, r⟩ := x
    exact ⟨ho _ d, z, ne, k _ _ (.inl rfl) e, mA, ⟨od, es, ep, k _ _ (.inr d) e2, c⟩, r⟩
  | own y => obtain ⟨ob, e⟩ := x; exact ⟨ob, k _ _ (.inl rfl) e⟩
  | xd fs => obtain ⟨mA, ⟨od, es, ep, e, c⟩, r⟩ := x; exact ⟨mA, ⟨od, es, ep, k _ _ (.inl rfl) e, c⟩, r⟩
  | rng lo hi => obtain ⟨t, u, v, e⟩ := x; exact ⟨t, u, v, k _ _ (.inl rfl) e⟩
  | frz ob u ih => obtain ⟨e, q⟩ := x; exact ⟨k _ _ (.inl rfl) e, ih q⟩
  | tbl ps =>
    have e : h.get? a = some { cls := .none, data := .fields ps } := x
    show h'.get? a = some { cls := .none, data := .fields ps }
    exact k a _ (.inl rfl) e
  | met f y =>
    have e : h.get? a = some (PySem.W.methodObj (.ref f) (.ref y)) := x
    show h'.get? a = some (PySem.W.methodObj (.ref f) (.ref y))
    exact k a _ (.inl rfl) e
  | ext φ => obtain ⟨p, ⟨o, e⟩, st⟩ := x; exact ⟨st _ _ p fun o q => k _ _ (.inl rfl) q, ⟨o, k _ _ (.inl rfl) e⟩, st⟩
theorem HOk.lt (x : HOk P w H h) (e : H a = some o) : a < h.objs.size := (x a o e).lt
theorem HOk.fresh (x : HOk P w H h) (e : h.objs.size ≤ a) : H a = none := by
  cases q : H a with
  | none => rfl
  | some u => exact absurd (Nat.lt_of_lt_of_le (x.lt q) e) (Nat.lt_irrefl _)
/-- every object of the heap is kept -/
theorem HOk.kept (x : HOk P w H h) (k : ∀ b u, h.get? b = some u → h'.get? b = some u) : HOk P w H h' := fun a o e =>
  (x a o e).stay (fun b u _ q => k b u q) (fun _ q => q) fun _ _ q => q
/-- a new object is laid and tracked -/
theorem HOk.laid (x : HOk P w H h) (k : ∀ b u, h.get? b = some u → h'.get? b = some u) (hp : h.objs.size ≤ a) (new : ObjOk P w (upd H a o) h' a o) : HOk P w (upd H a o) h' := fun b u e => by
  have hn := x.fresh hp
  by_cases hb : b = a
  · subst hb; rw [upd_same] at e; cases e; exact new
  · rw [upd_ne hb] at e
    exact (x b u e).stay (fun c v _ q => k c v q) (fun c q => by rw [upd_ne (ne_of_none q hn)]; exact q) fun c xs q => by rw [upd_ne (ne_of_none q hn)]; exact q
end

/-- what may be read as u: it is u, or a known u -/
def Rd (H : Hp) (a : Addr) (u : HO) : Prop := H a = some u ∨ ∃ o, H a = some (.frz o u)
theorem Rd.ok {P : Program} {w : World} {H : Hp} {h : Heap} {a : Addr} {u : HO} (r : Rd H a u) (x : HOk P w H h) : ObjOk P w H h a u := by
  rcases r with r | ⟨o, r⟩
  · exact x a u r
  · obtain ⟨_, q⟩ := x a _ r
    exact q
/-- what may be written -/
def Mut : Option HO → Prop
  | some (.lst _) => True
  | some (.dK _) => True
  | some (.dT _) => True
  | some (.set _ _) => True
  | some (.ins _ _ _) => True
  | some (.ext _) => True
  | _ => False
section
variable {P : Program} {w : World} {H : Hp} {h h' : Heap} {x e : Addr} {o' : HO}
/-- the object at e is changed: x itself, or the dict of the instance x -/
theorem HOk.write (ok : HOk P w H h) (mu : Mut (H x)) (he : e = x ∨ H e = some (.own x)) (k : ∀ b u, b ≠ e → h.get? b = some u → h'.get? b = some u) (heo : ∃ u, h'.get? e = some u)
    (new : ObjOk P w (upd H x o') h' x o') : HOk P w (upd H x o') h' := fun b u q => by
  have nown : ∀ c y, H c = some (.own y) → c ≠ x := fun c y r z => by subst z; rw [r] at mu; exact mu
  have ntup : ∀ c xs, H c = some (.tup xs) → c ≠ x := fun c xs r z => by subst z; rw [r] at mu; exact mu
  by_cases hb : b = x
  · subst hb; rw [upd_same] at q; cases q; exact new
  · rw [upd_ne hb] at q
    by_cases hbe : b = e
    · have q' : H b = some (.own x) := by
        rcases he with z | z
        · exact absurd (hbe.trans z) hb
        · rw [hbe]; exact z
      rw [q] at q'; cases q'
      obtain ⟨v, hv⟩ := heo
      exact ⟨v, by rw [hbe]; exact hv⟩
    · refine (ok b u q).stay (fun c v hc r => k c v ?_ r) (fun c r => by rw [upd_ne (nown c b r)]; exact r) fun c xs r => by rw [upd_ne (ntup c xs r)]; exact r
      rcases hc with rfl | hc
      · exact hbe
      · rintro rfl
        rcases he with z | z
        · exact nown c b hc z
        · rw [hc] at z; cases z; exact hb rfl
end

/-! ### kept unless tracked; of the frames at fs (the callers') the slots may change (an exception that passes writes there); of the records at ex (iterators) nothing is said -/
structure Un (fs ex : List Addr) (H H' : Hp) (h h' : Heap) : Prop where
  keep : ∀ b o, h.get? b = some o → H b = none → b ∉ fs → b ∉ ex → h'.get? b = some o
  slot : ∀ b o, h.get? b = some o → H b = none → b ∈ fs → b ∉ ex → ∃ sl, h'.get? b = some { o with slots := sl }
  free : ∀ b o, h.get? b = some o → H b = none → b ∉ ex → H' b = none
  there : ∀ b o, h.get? b = some o → b ∉ ex → ∃ o', h'.get? b = some o'
  tups : ∀ b xs, H b = some (.tup xs) → H' b = some (.tup xs)
  frzs : ∀ b o u, H b = some (.frz o u) → H' b = some (.frz o u)
  tbls : ∀ b ps, H b = some (.tbl ps) → ∃ more, H' b = some (.tbl (ps ++ more))
section
variable {fs fs' ex ex' : List Addr} {H H1 H2 : Hp} {h h1 h2 h' : Heap} {a x e : Addr} {o : HO}
theorem Un.any (u : Un fs ex H H1 h h1) {b : Addr} {ob : Obj} (q : h.get? b = some ob) (n : H b = none) (hx : b ∉ ex) : ∃ sl, h1.get? b = some { ob with slots := sl } := by
  by_cases hb : b ∈ fs
  · exact u.slot b ob q n hb hx
  · exact ⟨ob.slots, u.keep b ob q n hb hx⟩
theorem Un.trans (a : Un fs ex H H1 h h1) (b : Un fs ex H1 H2 h1 h2) : Un fs ex H H2 h h2 where
  keep := fun c ob q n hc hx => b.keep c ob (a.keep c ob q n hc hx) (a.free c ob q n hx) hc hx
  slot := fun c ob q n hc hx => by
    obtain ⟨sl, e1⟩ := a.slot c ob q n hc hx
    obtain ⟨sl', e2⟩ := b.slot c _ e1 (a.free c ob q n hx) hc hx
    exact ⟨sl', e2⟩
  free := fun c ob q n hx => by
    obtain ⟨o', e1⟩ := a.there c ob q hx
    exact b.free c o' e1 (a.free c ob q n hx) hx
  there := fun c ob q hx => by
    obtain ⟨o', e1⟩ := a.there c ob q hx
    exact b.there c o' e1 hx
  tups := fun c xs q => b.tups c xs (a.tups c xs q)
  frzs := fun c ob xs q => b.frzs c ob xs (a.frzs c ob xs q)
  tbls := fun c ps q => by
    obtain ⟨m1, e1⟩ := a.tbls c ps q
    obtain ⟨m2, e2⟩ := b.tbls c _ e1
    exact ⟨m1 ++ m2, by rw [e2, Array.append_assoc]⟩
theorem Un.kept (k : ∀ b u, h.get? b = some u → h'.get? b = some u) : Un fs ex H H h h' :=
  ⟨fun b ob q _ _ _ => k b ob q, fun b ob q _ _ _ => ⟨ob.slots, k b ob q⟩, fun _ _ _ n _ => n, fun b ob q _ => ⟨ob, k b ob q⟩, fun _ _ q => q, fun _ _ _ q => q, fun _ ps q => ⟨#[], by rw [q]; simp⟩⟩
theorem Un.refl : Un fs ex H H h h := Un.kept fun _ _ q => q
theorem Un.laid (k : ∀ b u, h.get? b = some u → h'.get? b = some u) (hp : h.objs.size ≤ a) (hn : H a = none) : Un fs ex H (upd H a o) h h' where
  keep := fun b u q _ _ _ => k b u q
  slot := fun b u q _ _ _ => ⟨u.slots, k b u q⟩
  free := fun b u q n _ => by rw [upd_ne (Nat.ne_of_lt (Nat.lt_of_lt_of_le (Heap.lt_size q) hp))]; exact n
  there := fun b u q _ => ⟨u, k b u q⟩
  tups := fun b xs q => by rw [upd_ne (ne_of_none q hn)]; exact q
  frzs := fun b u xs q => by rw [upd_ne (ne_of_none q hn)]; exact q
  tbls := fun b ps q => ⟨#[], by rw [upd_ne (ne_of_none q hn), q]; simp⟩
theorem Un.write (mu : Mut (H x)) (he : e = x ∨ H e = some (.own x)) (k : ∀ b u, b ≠ e → h.get? b = some u → h'.get? b = some u) (heo : ∃ u, h'.get? e = some u) : Un fs ex H (upd H x o) h h' := by
  have hx : ∀ b, H b = none → b ≠ x := fun b n z => by subst z; rw [n] at mu; exact mu
  have hb : ∀ b, H b = none → b ≠ e := fun b n z => by
    subst z
    rcases he with r | r
    · exact hx b n r
    · rw [n] at r; cases r
  have hm : ∀ b u, H b = some u → ¬ Mut (some u) → b ≠ x := fun b u q nm z => by subst z; rw [q] at mu; exact nm mu
  refine ⟨fun b u q n _ _ => k b u (hb b n) q, fun b u q n _ _ => ⟨u.slots, k b u (hb b n) q⟩, fun b u q n _ => by rw [upd_ne (hx b n)]; exact n, fun b u q _ => ?_,
    fun b xs q => by rw [upd_ne (hm b _ q fun z => z)]; exact q, fun b u xs q => by rw [upd_ne (hm b _ q fun z => z)]; exact q, fun b ps q => ⟨#[], by rw [upd_ne (hm b _ q fun z => z), q]; simp⟩⟩
  by_cases hbe : b = e
  · subst hbe; exact heo
  · exact ⟨u, k b u hbe q⟩
end

/-! ### the heap without what is tracked -/
def trk (h : Heap) (H : Hp) : List Addr := (List.range h.objs.size).filter fun a => (H a).isSome
def hidT (h : Heap) (H : Hp) : Heap := PySem.W.hideAll h (trk h H)
theorem hidT_size (h : Heap) (H : Hp) : (hidT h H).objs.size = h.objs.size := PySem.W.hideAll_size _ _
theorem hidT_get {h : Heap} {H : Hp} {b : Addr} {o : Obj} (e : h.get? b = some o) (n : H b = none) : (hidT h H).get? b = some o :=
  PySem.W.hideAll_get _ e fun hm => by
    have q : (H b).isSome = true := (List.mem_filter.mp hm).2
    rw [n] at q; simp at q
theorem of_hidT {h : Heap} {H : Hp} {b : Addr} {o : Obj} (e : (hidT h H).get? b = some o) : h.get? b = some o ∧ H b = none := by
  have e' : h.get? b = some o := PySem.W.of_hideAll (trk h H) e
  refine ⟨e', ?_⟩
  cases q : H b with
  | none => rfl
  | some x =>
    have hm : b ∈ trk h H := List.mem_filter.mpr ⟨List.mem_range.mpr (Heap.lt_size e'), by simp [q]⟩
    have z : (hidT h H).get? b = none := PySem.W.hideAll_none (trk h H) hm
    rw [z] at e; cases e

/-! ### OpenK's ledger, filled with every new object but one -/
end L2

namespace L2
open PySem PySem.Spec PyProof.Rows

/-- the module's facts, over the base: the heap at the law's entry without what is tracked there -/
structure Mod (K : PySem.W.Frag) (mg : Str → Option Value) (base : Heap) : Prop where
  kin : K.In base
  glob : base.Ns mainGlobals mg
  blt : ∃ mb, base.Ns builtinsNs mb ∧ ∀ x : Str, x ≠ "__name__" → mb x = bootBuiltins x
  nolimit : base.NoLimit

/-- the context: a def's body (or a comprehension's block) running. base: fixed through the whole law; s₀, H₀: the entry; outer: the frames whose slots others may change (a def's callers); stack: all frames that run;
   ex: iterators that were made ahead of the entry and are walked here (a comprehension's); fn: the names whose cells were made at the entry (a def: all; a comprehension's block: its own); calm: not within an except suite; pn: pins that every state bears; xe: what is wanted of an exception that leaves the code -/
structure Cx where
  prog : Program
  w : World
  K : PySem.W.Frag
  mg : Str → Option Value
  base : Heap
  A : Around
  N : List Str
  s₀ : Shared
  H₀ : Hp
  env : Env
  outer : List Env
  stack : List Env
  ex : List Addr
  fn : Str → Bool
  calm : Bool
  pn : List (Addr × Obj)
  xe : Value → Shared → Prop
/-- the callers' frames -/
def frs (l : List Env) : List Addr := l.filterMap (·.frame)
abbrev Cx.fs (X : Cx) : List Addr := frs X.outer

def Vis (sc : Scope) (x : Str) : Prop := sc.names.lookup x = some .local ∨ sc.names.lookup x = some .cell ∨ sc.names.lookup x = some .free
def Loc (sc : Scope) (x : Str) : Prop := sc.names.lookup x = some .local ∨ sc.names.lookup x = some .cell
def Look (env : Env) (h : Heap) (m : Str → Option Value) (x : Str) (u : Value) : Prop :=
  (env.kindOf x = some .local ∧ m x = some u) ∨ ((env.kindOf x = some .cell ∨ env.kindOf x = some .free) ∧ ∃ c, env.cells.lookup x = some c ∧ h.IsCell c (some u))

structure Cx.Ok (X : Cx) : Prop where
  mod : Mod X.K X.mg X.base
  kind : X.env.scope.kind = .function
  glob : X.env.globals = mainGlobals
  blt : X.env.builtins = builtinsNs
  above : X.s₀.heap.objs.size ≤ X.env.locals
  inj : ∀ x y c, X.env.cells.lookup x = some c → X.env.cells.lookup y = some c → x = y
  has : ∀ x, (X.env.kindOf x = some .cell ∨ X.env.kindOf x = some .free) → ∃ c, X.env.cells.lookup x = some c
  cab : ∀ x c, X.fn x = true → X.env.cells.lookup x = some c → X.s₀.heap.objs.size ≤ c
  hd : X.calm = true → X.A.handled = none
  frames : X.A.frames = some X.stack
  stk : X.stack = X.outer ∨ (X.stack = X.env :: X.outer ∧ X.env.frame = some X.env.locals)
  exf : ∀ b ∈ X.ex, b ≠ X.env.locals ∧ ∀ x c, X.env.cells.lookup x = some c → c ≠ b
  bs : ∀ b o, X.base.get? b = some o → X.s₀.heap.get? b = some o ∧ X.H₀ b = none
  bsz : X.base.objs.size ≤ X.s₀.heap.objs.size
  noex : ∀ b o, X.base.get? b = some o → b ∉ X.ex
  exfs : ∀ b ∈ X.ex, b ∉ X.fs
  funs : X.s₀.heap.FunFrames X.base X.outer
  frf : ∀ b ∈ X.fs, X.H₀ b = none

structure Inv (X : Cx) (pins : List (Addr × Obj)) (σ : List (Option V)) (H : Hp) (s : Shared) : Prop where
  ok : X.Ok
  os : s.os = X.s₀.os
  bare : AllBare s.gens
  base : Un X.fs X.ex X.H₀ H X.s₀.heap s.heap
  loc : ∃ m, s.heap.Ns X.env.locals m ∧ ∀ (i : Nat) (x : Str) (v : V), X.N[i]? = some x → σ[i]? = some (some v) → Vis X.env.scope x → ∃ u, RelV v u ∧ Look X.env s.heap m x u
  cell : ∀ x c, X.env.cells.lookup x = some c → ∃ v, s.heap.IsCell c v
  free : H X.env.locals = none
  freeC : ∀ x c, X.env.cells.lookup x = some c → H c = none
  pin : ∀ p ∈ X.pn ++ pins, s.heap.get? p.1 = some p.2 ∧ H p.1 = none ∧ p.1 ≠ X.env.locals ∧ p.1 ∉ X.fs ∧ ∀ v, p.2.data ≠ .cell v
  hok : HOk X.prog X.w H s.heap
  len : σ.length = X.N.length

section
variable {X : Cx} {pins : List (Addr × Obj)} {σ : List (Option V)} {H H' : Hp} {s : Shared} {h' : Heap}

theorem Cx.Ok.nofr (ok : X.Ok) {b : Addr} {o : Obj} (e : X.base.get? b = some o) : b ∉ X.fs := fun hb => by
  have := (ok.funs.mem hb).1
  rw [e] at this; cases this
theorem Inv.bs (I : Inv X pins σ H s) : ∀ b o, X.base.get? b = some o → s.heap.get? b = some o ∧ H b = none := fun b o e =>
  ⟨I.base.keep b o (I.ok.bs b o e).1 (I.ok.bs b o e).2 (I.ok.nofr e) (I.ok.noex b o e), I.base.free b o (I.ok.bs b o e).1 (I.ok.bs b o e).2 (I.ok.noex b o e)⟩
theorem Inv.bk (I : Inv X pins σ H s) : ∀ b o, X.base.get? b = some o → s.heap.get? b = some o := fun b o e => (I.bs b o e).1
theorem Inv.mod (I : Inv X pins σ H s) : Mod X.K X.mg X.base := I.ok.mod
theorem Inv.kIn (I : Inv X pins σ H s) : X.K.In s.heap := I.ok.mod.kin.keeps I.bk
theorem Inv.lt (I : Inv X pins σ H s) : X.env.locals < s.heap.objs.size := let ⟨_, hn, _⟩ := I.loc; hn.lt
theorem Inv.sz (I : Inv X pins σ H s) : X.s₀.heap.objs.size ≤ s.heap.objs.size := Nat.le_trans I.ok.above (Nat.le_of_lt I.lt)
theorem Inv.nofs (I : Inv X pins σ H s) {a : Addr} (h : s.heap.objs.size ≤ a) : a ∉ X.fs := fun hb => by
  obtain ⟨_, o, ho, _⟩ := I.ok.funs.mem hb
  exact absurd (Nat.lt_of_lt_of_le (Heap.lt_size ho) (Nat.le_trans I.sz h)) (Nat.lt_irrefl _)
theorem Inv.cne (I : Inv X pins σ H s) : ∀ x c, X.env.cells.lookup x = some c → c ≠ X.env.locals := fun x c e z => by
  obtain ⟨v, o, ho, hd⟩ := I.cell x c e
  obtain ⟨m, ⟨o', es, ep, ho', hd', _⟩, _⟩ := I.loc
  rw [z, ho'] at ho; cases ho; rw [hd'] at hd; cases hd
theorem Inv.funs (I : Inv X pins σ H s) : s.heap.FunFrames X.base X.outer := by
  have all : ∀ (l : List Env), (∀ b ∈ frs l, b ∈ X.fs) → X.s₀.heap.FunFrames X.base l → s.heap.FunFrames X.base l := by
    intro l
    induction l with
    | nil => intro _ _; trivial
    | cons env r ih =>
      intro hs hl
      obtain ⟨hk, ⟨L, o, hf, hn, ho, hd⟩, hr⟩ := hl
      have hL : L ∈ X.fs := hs L (by unfold frs; rw [List.filterMap_cons, hf]; exact List.mem_cons_self)
      obtain ⟨sl, e⟩ := I.base.slot L o ho (I.ok.frf L hL) hL fun z => I.ok.exfs L z hL
      exact ⟨hk, ⟨L, _, hf, hn, e, hd⟩, ih (fun b hb => hs b (by unfold frs; rw [List.filterMap_cons, hf]; exact List.mem_cons_of_mem _ hb)) hr⟩
  exact all X.outer (fun _ hb => hb) I.ok.funs

/-- the frames that run, for a call -/
theorem Inv.stack (I : Inv X pins σ H s) : s.heap.FunFrames X.base X.stack := by
  rcases I.ok.stk with e | ⟨e, hf⟩
  · rw [e]; exact I.funs
  · rw [e]
    obtain ⟨m, hn, _⟩ := I.loc
    refine .cons (by rw [I.ok.kind]; decide) hf hn ?_ I.funs
    exact Heap.get?_none_of_le (Nat.le_trans I.ok.bsz I.ok.above)
theorem Inv.stkSub (I : Inv X pins σ H s) : ∀ b ∈ frs X.stack, b ∈ X.env.locals :: X.fs := fun b hb => by
  rcases I.ok.stk with e | ⟨e, hf⟩
  · rw [e] at hb; exact List.mem_cons_of_mem _ hb
  · rw [e] at hb
    unfold frs at hb
    rw [List.filterMap_cons, hf] at hb
    exact hb
theorem Inv.stkFree (I : Inv X pins σ H s) : ∀ b ∈ frs X.stack, H b = none := fun b hb => by
  rcases List.mem_cons.mp (I.stkSub b hb) with e | hb
  · rw [e]; exact I.free
  · obtain ⟨_, o, ho, _⟩ := I.ok.funs.mem hb
    exact I.base.free b o ho (I.ok.frf b hb) fun z => I.ok.exfs b z hb

/-- THE STEP: the untracked objects but the frame and the records at ch are kept (the callers' frames up to slots), the frame's map is kept, the new abstract heap is held -/
theorem Inv.step {g' : Array GenState} {t' : Nat} {d' : Drawn} {ch : List Addr} (I : Inv X pins σ H s)
    (hch : ∀ b ∈ ch, (b ∈ X.ex ∨ X.s₀.heap.objs.size ≤ b) ∧ b ≠ X.env.locals ∧ (∀ x c, X.env.cells.lookup x = some c → c ≠ b) ∧ ∀ p ∈ X.pn ++ pins, p.1 ≠ b)
    (keep : ∀ b o, b ≠ X.env.locals → b ∉ X.fs → b ∉ ch → s.heap.get? b = some o → H b = none → h'.get? b = some o)
    (slot : ∀ b o, b ≠ X.env.locals → b ∈ X.fs → b ∉ ch → s.heap.get? b = some o → H b = none → ∃ sl, h'.get? b = some { o with slots := sl }) (free : ∀ b o, b ∉ ch → s.heap.get? b = some o → H b = none → H' b = none)
    (there : ∀ b o, b ∉ ch → s.heap.get? b = some o → ∃ o', h'.get? b = some o')
    (tups : ∀ b xs, H b = some (.tup xs) → H' b = some (.tup xs)) (frzs : ∀ b o u, H b = some (.frz o u) → H' b = some (.frz o u)) (tbls : ∀ b ps, H b = some (.tbl ps) → ∃ more, H' b = some (.tbl (ps ++ more)))
    (ns : ∀ m, s.heap.Ns X.env.locals m → h'.Ns X.env.locals m) (hok : HOk X.prog X.w H' h') (hg : AllBare g') :
    Inv X pins σ H' { s with heap := h', gens := g', drawn := d', toks := t' } := by
  have neL : ∀ b o, X.s₀.heap.get? b = some o → b ≠ X.env.locals := fun b o e => Nat.ne_of_lt (Nat.lt_of_lt_of_le (Heap.lt_size e) I.ok.above)
  have neC : ∀ b o, X.s₀.heap.get? b = some o → b ∉ X.ex → b ∉ ch := fun b o e hx hb => by
    rcases (hch b hb).1 with z | z
    · exact hx z
    · exact absurd (Nat.lt_of_lt_of_le (Heap.lt_size e) z) (Nat.lt_irrefl _)
  have cellK : ∀ x c, X.env.cells.lookup x = some c → ∀ v, s.heap.IsCell c v → h'.IsCell c v := fun x c e v ⟨o, ho, hd⟩ => by
    have nch : c ∉ ch := fun z => (hch c z).2.2.1 x c e rfl
    by_cases hc : c ∈ X.fs
    · obtain ⟨sl, q⟩ := slot c o (I.cne x c e) hc nch ho (I.freeC x c e)
      exact ⟨_, q, hd⟩
    · exact ⟨o, keep c o (I.cne x c e) hc nch ho (I.freeC x c e), hd⟩
  refine ⟨I.ok, I.os, hg, ⟨fun b o e n hb hx => ?_, fun b o e n hb hx => ?_, fun b o e n hx => ?_, fun b o e hx => ?_, fun b xs e => tups b xs (I.base.tups b xs e), fun b o xs e => frzs b o xs (I.base.frzs b o xs e), fun b ps e => ?_⟩, ?_, fun x c e => ?_, ?_, fun x c e => ?_, fun p hp => ?_, hok, I.len⟩
  · exact keep b o (neL b o e) hb (neC b o e hx) (I.base.keep b o e n hb hx) (I.base.free b o e n hx)
  · obtain ⟨sl, e1⟩ := I.base.slot b o e n hb hx
    obtain ⟨sl', e2⟩ := slot b _ (neL b o e) hb (neC b o e hx) e1 (I.base.free b o e n hx)
    exact ⟨sl', e2⟩
  · obtain ⟨o', e1⟩ := I.base.there b o e hx
    exact free b o' (neC b o e hx) e1 (I.base.free b o e n hx)
  · obtain ⟨o', e1⟩ := I.base.there b o e hx
    exact there b o' (neC b o e hx) e1
  · obtain ⟨m1, e1⟩ := I.base.tbls b ps e
    obtain ⟨m2, e2⟩ := tbls b _ e1
    exact ⟨m1 ++ m2, by rw [e2, Array.append_assoc]⟩
  · obtain ⟨m, hn, hl⟩ := I.loc
    refine ⟨m, ns m hn, fun i x v e1 e2 e3 => ?_⟩
    obtain ⟨u, r, l⟩ := hl i x v e1 e2 e3
    refine ⟨u, r, ?_⟩
    rcases l with l | ⟨k, c, e, z⟩
    · exact .inl l
    · exact .inr ⟨k, c, e, cellK x c e _ z⟩
  · obtain ⟨v, z⟩ := I.cell x c e
    exact ⟨v, cellK x c e v z⟩
  · obtain ⟨m, ⟨o, _, _, ho, _⟩, _⟩ := I.loc
    exact free _ o (fun z => (hch _ z).2.1 rfl) ho I.free
  · obtain ⟨v, o, ho, hd⟩ := I.cell x c e
    exact free c o (fun z => (hch c z).2.2.1 x c e rfl) ho (I.freeC x c e)
  · obtain ⟨e, n, ne, nf, d⟩ := I.pin p hp
    have nch : p.1 ∉ ch := fun z => (hch p.1 z).2.2.2 p hp rfl
    exact ⟨keep p.1 p.2 ne nf nch e n, free p.1 p.2 nch e n, ne, nf, d⟩
/-- .. where the frame's own object is kept too -/
theorem Inv.un {t' : Nat} (I : Inv X pins σ H s) (u : Un X.fs [] H H' s.heap h') (hok : HOk X.prog X.w H' h') : Inv X pins σ H' { s with heap := h', toks := t' } := by
  obtain ⟨m, ⟨o, es, ep, ho, r⟩, _⟩ := id I.loc
  obtain ⟨sl, hL⟩ := u.any ho I.free (by simp)
  exact I.step (g' := s.gens) (d' := s.drawn) (ch := []) (fun _ z => nomatch z) (fun b o _ hb _ e n => u.keep b o e n hb (by simp)) (fun b o _ hb _ e n => u.slot b o e n hb (by simp)) (fun b o _ e n => u.free b o e n (by simp)) (fun b o _ e => u.there b o e (by simp)) u.tups u.frzs u.tbls (fun m' hm => by
    obtain ⟨o', es', ep', ho', r'⟩ := hm
    rw [ho] at ho'; cases ho'
    exact ⟨_, es', ep', hL, r'⟩) hok I.bare
/-- behind a call (or a comprehension's block): the slots of this frame may have changed too, the records at ch may have turned -/
theorem Inv.call {g' : Array GenState} {t' : Nat} {d' : Drawn} {ch : List Addr} (I : Inv X pins σ H s) (u : Un (frs X.stack) ch H H' s.heap h') (hok : HOk X.prog X.w H' h') (hg : AllBare g')
    (hch : ∀ b ∈ ch, (b ∈ X.ex ∨ X.s₀.heap.objs.size ≤ b) ∧ b ≠ X.env.locals ∧ (∀ x c, X.env.cells.lookup x = some c → c ≠ b) ∧ ∀ p ∈ X.pn ++ pins, p.1 ≠ b) :
    Inv X pins σ H' { s with heap := h', gens := g', drawn := d', toks := t' } := by
  obtain ⟨m, ⟨o, es, ep, ho, r⟩, _⟩ := id I.loc
  obtain ⟨sl, hL⟩ := u.any ho I.free fun z => (hch _ z).2.1 rfl
  exact I.step (ch := ch) hch (fun b o hL hb hc e n => u.keep b o e n (fun z => (List.mem_cons.mp (I.stkSub b z)).elim hL hb) hc) (fun b o _ _ hc e n => u.any e n hc) (fun b o hc e n => u.free b o e n hc) (fun b o hc e => u.there b o e hc) u.tups u.frzs u.tbls (fun m' hm => by
    obtain ⟨o', es', ep', ho', r'⟩ := hm
    rw [ho] at ho'; cases ho'
    exact ⟨_, es', ep', hL, r'⟩) hok hg
/-- an untracked record of ours (an iterator) has turned -/
theorem Inv.turned {t' : Nat} {it : Addr} (I : Inv X pins σ H s) (k : ∀ b o, b ≠ it → s.heap.get? b = some o → h'.get? b = some o) (hn : H it = none) (hL : it ≠ X.env.locals)
    (h1 : it ∈ X.ex ∨ X.s₀.heap.objs.size ≤ it) (h2 : ∀ x c, X.env.cells.lookup x = some c → c ≠ it) (h3 : ∀ p ∈ X.pn ++ pins, p.1 ≠ it) : Inv X pins σ H { s with heap := h', toks := t' } := by
  have nit : ∀ b u, H b = some u → b ≠ it := fun b u e z => by rw [z, hn] at e; cases e
  refine I.step (g' := s.gens) (d' := s.drawn) (ch := [it]) (fun b hb => ?_) (fun b o _ _ hc e _ => k b o (fun z => hc (by simp [z])) e) (fun b o _ _ hc e _ => ⟨o.slots, k b o (fun z => hc (by simp [z])) e⟩) (fun _ _ _ _ n => n)
    (fun b o hc e => ⟨o, k b o (fun z => hc (by simp [z])) e⟩) (fun _ _ e => e) (fun _ _ _ e => e) (fun b ps e => ⟨#[], by rw [e]; simp⟩) (fun m hm => ?_) (fun b u e => ?_) I.bare
  · have e : b = it := by simpa using hb
    subst e
    exact ⟨h1, hL, h2, h3⟩
  · obtain ⟨o, es, ep, ho, r⟩ := hm
    exact ⟨o, es, ep, k _ o (Ne.symm hL) ho, r⟩
  · refine (I.hok b u e).stay (fun c v hc q => k c v ?_ q) (fun _ q => q) fun _ _ q => q
    rcases hc with z | z
    · rw [z]; exact nit b u e
    · exact nit c _ z
theorem Inv.tok (I : Inv X pins σ H s) (t : Nat) : Inv X pins σ H { s with toks := t } := I.un (h' := s.heap) (t' := t) Un.refl I.hok
/-- all objects kept -/
theorem Inv.kept {t' : Nat} (I : Inv X pins σ H s) (k : ∀ b u, s.heap.get? b = some u → h'.get? b = some u) : Inv X pins σ H { s with heap := h', toks := t' } := I.un (Un.kept k) (I.hok.kept k)
/-- a new object laid and tracked -/
theorem Inv.laid {a : Addr} {o : HO} {t' : Nat} (I : Inv X pins σ H s) (k : ∀ b u, s.heap.get? b = some u → h'.get? b = some u) (hp : s.heap.objs.size ≤ a) (new : ObjOk X.prog X.w (upd H a o) h' a o) :
    Inv X pins σ (upd H a o) { s with heap := h', toks := t' } := I.un (Un.laid k hp (I.hok.fresh hp)) (I.hok.laid k hp new)
/-- an object written -/
theorem Inv.write {x e : Addr} {o : HO} {t' : Nat} (I : Inv X pins σ H s) (mu : Mut (H x)) (he : e = x ∨ H e = some (.own x)) (k : ∀ b u, b ≠ e → s.heap.get? b = some u → h'.get? b = some u) (heo : ∃ u, h'.get? e = some u)
    (new : ObjOk X.prog X.w (upd H x o) h' x o) : Inv X pins σ (upd H x o) { s with heap := h', toks := t' } := I.un (Un.write mu he k heo) (I.hok.write mu he k heo new)
theorem Inv.pins_of {pins' : List (Addr × Obj)} (I : Inv X pins σ H s) (h : ∀ p ∈ pins', s.heap.get? p.1 = some p.2 ∧ H p.1 = none ∧ p.1 ≠ X.env.locals ∧ p.1 ∉ X.fs ∧ ∀ v, p.2.data ≠ .cell v) : Inv X pins' σ H s :=
  ⟨I.ok, I.os, I.bare, I.base, I.loc, I.cell, I.free, I.freeC, fun p hp => (List.mem_append.mp hp).elim (fun z => I.pin p (List.mem_append_left _ z)) (h p), I.hok, I.len⟩

theorem nodup_ix {N : List Str} (hN : N.Nodup) {i j : Nat} {x : Str} (a : N[i]? = some x) (b : N[j]? = some x) : i = j := by
  obtain ⟨h1, e1⟩ := List.getElem?_eq_some_iff.mp a
  obtain ⟨h2, e2⟩ := List.getElem?_eq_some_iff.mp b
  exact (List.getElem_inj hN).mp (e1.trans e2.symm)

/-- a name is stored; what changed -/
theorem store_ok2 {M : Model} {A : Around} {E : Value → Shared → Prop} {i : Nat} {x : Str} {v : V} {u : Value} {Q : Unit → Shared → Prop} (I : Inv X pins σ H s) (hN : X.N.Nodup) (hi : X.N[i]? = some x) (hx : Loc X.env.scope x) (r : RelV v u)
    (h : ∀ s', Inv X pins (σ.set i (some v)) H s' → (∃ a, Heap.SameBut a s.heap s'.heap ∧ (a = X.env.locals ∨ X.env.cells.lookup x = some a)) → Q () s') (hf : X.fn x = true ∨ X.env.scope.names.lookup x = some .local := by first | exact .inl rfl | exact .inr rfl | assumption) : wpAny M A (storeName X.env x u) Q E s := by
  obtain ⟨m, hn, hl⟩ := id I.loc
  have hcls : (X.env.scope.kind == .class || (X.env.scope.kind == .module && X.env.locals != X.env.globals)) = false := by rw [I.ok.kind]; rfl
  have hiσ : i < σ.length := by rw [I.len]; exact (List.getElem?_eq_some_iff.mp hi).1
  have cne := I.cne
  have tracked : ∀ {a : Addr} {h' : Heap}, (∃ o, s.heap.get? a = some o ∧ H a = none) → Heap.SameBut a s.heap h' → HOk X.prog X.w H h' := fun {a h'} ha hs b ob e => by
    obtain ⟨_, _, hfree⟩ := ha
    refine (I.hok b ob e).stay (fun c w' hc q => (hs.2 c ?_).trans q) (fun _ q => q) fun _ _ q => q
    rintro rfl
    rcases hc with rfl | hc
    · rw [hfree] at e; cases e
    · rw [hfree] at hc; cases hc
  rcases hx with hk | hk
  · refine wpAny_storeName_local hk hn (fun h' hn' hs => ?_) hcls
    obtain ⟨oL, _, _, hoL, _⟩ := id hn
    refine h _ ⟨I.ok, I.os, I.bare, ⟨fun b o e n hb hx => ?_, fun b o e n hb hx => ?_, I.base.free, fun b o e hx => ?_, I.base.tups, I.base.frzs, I.base.tbls⟩, ⟨_, hn', fun j y v' e1 e2 e3 => ?_⟩, fun y c e => ?_, I.free, I.freeC, fun p hp => ?_, tracked ⟨oL, hoL, I.free⟩ hs, by simpa using I.len⟩ ⟨_, hs, .inl rfl⟩
    · exact (hs.2 b (Nat.ne_of_lt (Nat.lt_of_lt_of_le (Heap.lt_size e) I.ok.above))).trans (I.base.keep b o e n hb hx)
    · obtain ⟨sl, e1⟩ := I.base.slot b o e n hb hx
      exact ⟨sl, (hs.2 b (Nat.ne_of_lt (Nat.lt_of_lt_of_le (Heap.lt_size e) I.ok.above))).trans e1⟩
    · obtain ⟨o', e1⟩ := I.base.there b o e hx
      exact ⟨o', (hs.2 b (Nat.ne_of_lt (Nat.lt_of_lt_of_le (Heap.lt_size e) I.ok.above))).trans e1⟩
    · by_cases hj : j = i
      · subst hj
        rw [hi] at e1; cases e1
        rw [List.getElem?_set_self hiσ] at e2
        cases e2
        exact ⟨u, r, .inl ⟨hk, by simp⟩⟩
      · rw [List.getElem?_set_ne (Ne.symm hj)] at e2
        obtain ⟨u', r', q⟩ := hl j y v' e1 e2 e3
        refine ⟨u', r', ?_⟩
        rcases q with ⟨k, e⟩ | ⟨k, c, e, z⟩
        · refine .inl ⟨k, ?_⟩
          have : y ≠ x := fun e => hj (nodup_ix hN e1 (e ▸ hi))
          simp [this, e]
        · exact .inr ⟨k, c, e, z.sameBut hs (cne y c e)⟩
    · obtain ⟨w', z⟩ := I.cell y c e
      exact ⟨w', z.sameBut hs (cne y c e)⟩
    · obtain ⟨e, n, ne, nf, d⟩ := I.pin p hp
      exact ⟨(hs.2 p.1 ne).trans e, n, ne, nf, d⟩
  · have hfn : X.fn x = true := by
      rcases hf with z | z
      · exact z
      · rw [z] at hk; cases hk
    obtain ⟨c, hc⟩ := I.ok.has x (.inl hk)
    obtain ⟨w', z⟩ := I.cell x c hc
    refine wpAny_storeName_cell I.ok.kind hk hc z (fun h' hc' hs => ?_)
    obtain ⟨oc, hoc, hocd⟩ := id z
    refine h { s with heap := h' } ⟨I.ok, I.os, I.bare, ⟨fun b o e n hb hx => ?_, fun b o e n hb hx => ?_, I.base.free, fun b o e hx => ?_, I.base.tups, I.base.frzs, I.base.tbls⟩, ⟨m, hn.sameBut hs (Ne.symm (cne x c hc)), fun j y v' e1 e2 e3 => ?_⟩, fun y c' e => ?_, I.free, I.freeC, fun p hp => ?_, tracked ⟨oc, hoc, I.freeC x c hc⟩ hs, by simpa using I.len⟩ ⟨c, hs, .inr hc⟩
    · exact (hs.2 b (Nat.ne_of_lt (Nat.lt_of_lt_of_le (Heap.lt_size e) (I.ok.cab x c hfn hc)))).trans (I.base.keep b o e n hb hx)
    · obtain ⟨sl, e1⟩ := I.base.slot b o e n hb hx
      exact ⟨sl, (hs.2 b (Nat.ne_of_lt (Nat.lt_of_lt_of_le (Heap.lt_size e) (I.ok.cab x c hfn hc)))).trans e1⟩
    · obtain ⟨o', e1⟩ := I.base.there b o e hx
      exact ⟨o', (hs.2 b (Nat.ne_of_lt (Nat.lt_of_lt_of_le (Heap.lt_size e) (I.ok.cab x c hfn hc)))).trans e1⟩
    · by_cases hj : j = i
      · subst hj
        rw [hi] at e1; cases e1
        rw [List.getElem?_set_self hiσ] at e2
        cases e2
        exact ⟨u, r, .inr ⟨.inl hk, c, hc, hc'⟩⟩
      · rw [List.getElem?_set_ne (Ne.symm hj)] at e2
        obtain ⟨u', r', q⟩ := hl j y v' e1 e2 e3
        refine ⟨u', r', ?_⟩
        rcases q with q | ⟨k, c', e, z'⟩
        · exact .inl q
        · refine .inr ⟨k, c', e, z'.sameBut hs ?_⟩
          rintro rfl
          exact hj (nodup_ix hN e1 (I.ok.inj _ _ _ e hc ▸ hi))
    · by_cases hcc : c' = c
      · subst hcc; exact ⟨_, hc'⟩
      · obtain ⟨w2, z2⟩ := I.cell y c' e
        exact ⟨w2, z2.sameBut hs hcc⟩
    · obtain ⟨e, n, ne, nf, d⟩ := I.pin p hp
      refine ⟨(hs.2 p.1 ?_).trans e, n, ne, nf, d⟩
      intro q
      rw [q, hoc] at e
      have q' : oc = p.2 := Option.some.inj e
      exact d w' (by rw [← q']; exact hocd)
theorem store_ok {M : Model} {A : Around} {E : Value → Shared → Prop} {i : Nat} {x : Str} {v : V} {u : Value} {Q : Unit → Shared → Prop} (I : Inv X pins σ H s) (hN : X.N.Nodup) (hi : X.N[i]? = some x) (hx : Loc X.env.scope x) (r : RelV v u)
    (h : ∀ s', Inv X pins (σ.set i (some v)) H s' → Q () s') (hf : X.fn x = true ∨ X.env.scope.names.lookup x = some .local := by first | exact .inl rfl | exact .inr rfl | assumption) : wpAny M A (storeName X.env x u) Q E s :=
  store_ok2 I hN hi hx r (fun s' I' _ => h s' I') hf
/-- behind a call or a block, the state as it is -/
theorem Inv.call' {s' : Shared} {ch : List Addr} (I : Inv X pins σ H s) (ho : s'.os = s.os) (u : Un (frs X.stack) ch H H' s.heap s'.heap) (hok : HOk X.prog X.w H' s'.heap) (hg : AllBare s'.gens)
    (hch : ∀ b ∈ ch, (b ∈ X.ex ∨ X.s₀.heap.objs.size ≤ b) ∧ b ≠ X.env.locals ∧ (∀ x c, X.env.cells.lookup x = some c → c ≠ b) ∧ ∀ p ∈ X.pn ++ pins, p.1 ≠ b) : Inv X pins σ H' s' := by
  obtain ⟨h', g', d', t', o'⟩ := s'
  have e : o' = s.os := ho
  subst e
  exact I.call (g' := g') (t' := t') (d' := d') u hok hg hch
end

/-! ### the judgements -/
/-- an exception: its class, its own dict's address (where it has one), the abstract heap behind it -/
abbrev XK := Value → Option Addr → Hp → Prop
abbrev St := List (Option V)
abbrev VK := V → Hp → Prop
/-- an expression's reading; a test's; an argument list's -/
abbrev TE := St → Hp → VK → Prop
abbrev TT := St → Hp → (Bool → Hp → Prop) → Prop
abbrev TA := St → Hp → (List V → Hp → Prop) → Prop
/-- what is wanted behind a statement -/
structure Ends where
  nx : St → Hp → Prop
  rt : VK
  bk : St → Hp → Prop := fun _ _ => False
  ct : St → Hp → Prop := fun _ _ => False
abbrev TS := Ends → St → Hp → Prop

def EP (X : Cx) (pins : List (Addr × Obj)) (σ : St) (Q : VK) (u : Value) (s' : Shared) : Prop := ∃ v H', Inv X pins σ H' s' ∧ RelV v u ∧ Q v H'
def TP (X : Cx) (pins : List (Addr × Obj)) (σ : St) (Q : Bool → Hp → Prop) (b : Bool) (s' : Shared) : Prop := ∃ H', Inv X pins σ H' s' ∧ Q b H'
def AP (X : Cx) (pins : List (Addr × Obj)) (σ : St) (Q : List V → Hp → Prop) (us : List Value) (s' : Shared) : Prop := ∃ vs H', Inv X pins σ H' s' ∧ Vals vs us ∧ Q vs H'
def SP (X : Cx) (pins : List (Addr × Obj)) (D : Ends) (f : Flow) (s' : Shared) : Prop :=
  match f with
  | .next => ∃ σ' H', Inv X pins σ' H' s' ∧ D.nx σ' H'
  | .brk => ∃ σ' H', Inv X pins σ' H' s' ∧ D.bk σ' H'
  | .cont => ∃ σ' H', Inv X pins σ' H' s' ∧ D.ct σ' H'
  | .ret u => ∃ v σ' H', Inv X pins σ' H' s' ∧ RelV v u ∧ D.rt v H'

def PE (X : Cx) (e : Expr) (t : TE) : Prop :=
  ∀ (pins : List (Addr × Obj)) (s : Shared) (σ : St) (H : Hp) (Q : VK), Inv X pins σ H s → t σ H Q → wpAny (model X.prog X.w) X.A (eval e X.env) (EP X pins σ Q) X.xe s
def PT (X : Cx) (e : Expr) (t : TT) : Prop :=
  ∀ (pins : List (Addr × Obj)) (s : Shared) (σ : St) (H : Hp) (Q : Bool → Hp → Prop), Inv X pins σ H s → t σ H Q → wpAny (model X.prog X.w) X.A (isTrue e X.env (eval e X.env)) (TP X pins σ Q) X.xe s
/-- a test whatever its 'whole' is (and, or) -/
def PW (X : Cx) (e : Expr) (t : TT) : Prop :=
  ∀ (whole : Sem Value) (pins : List (Addr × Obj)) (s : Shared) (σ : St) (H : Hp) (Q : Bool → Hp → Prop), Inv X pins σ H s → t σ H Q → wpAny (model X.prog X.w) X.A (isTrue e X.env whole) (TP X pins σ Q) X.xe s
theorem PW.pt {X : Cx} {e : Expr} {t : TT} (h : PW X e t) : PT X e t := h _
/-- an argument list (no star), from the left -/
def PA (X : Cx) (es : List Expr) (t : TA) : Prop :=
  ∀ (pos : Pos) (pins : List (Addr × Obj)) (s : Shared) (σ : St) (H : Hp) (Q : List V → Hp → Prop), Inv X pins σ H s → t σ H Q → wpAny (model X.prog X.w) X.A (spliced (backTo pos (starEach es X.env))) (AP X pins σ Q) X.xe s
def PS (X : Cx) (st : Stmt) (t : TS) : Prop :=
  ∀ (pins : List (Addr × Obj)) (s : Shared) (σ : St) (H : Hp) (D : Ends), Inv X pins σ H s → t D σ H → wpAny (model X.prog X.w) X.A (exec st X.env) (SP X pins D) X.xe s
def PSs (X : Cx) (st : List Stmt) (t : TS) : Prop :=
  ∀ (pins : List (Addr × Obj)) (s : Shared) (σ : St) (H : Hp) (D : Ends), Inv X pins σ H s → t D σ H → wpAny (model X.prog X.w) X.A (execs st X.env) (SP X pins D) X.xe s
/-- weaken the end -/
theorem thn {α : Type} {t : Sem α} {Q Q' : α → Shared → Prop} {M : Model} {A : Around} {E : Value → Shared → Prop} {s : Shared} (h : wpAny M A t Q E s) (hQ : ∀ a s, Q a s → Q' a s) : wpAny M A t Q' E s := wpAny_mono h hQ fun _ _ x => x
end L2

namespace L2
open PySem PySem.Spec PyProof.Rows
section
variable {X : Cx}


/-! ### names and constants -/
def tVar (i : Nat) : TE := fun σ H Q => ∃ v, σ[i]? = some (some v) ∧ Q v H
def tC (v : V) : TE := fun _ H Q => Q v H
theorem pe_var {i : Nat} {x : Str} {pos : Pos} (hN : X.N[i]? = some x) (hv : Vis X.env.scope x) (hd : (x == ("__debug__" : Str)) = false := by decide) (hcd : (x == ("__classdict__" : Str)) = false := by decide) : PE X (.Name x pos) (tVar i) := by
  intro pins s σ H Q I h
  obtain ⟨v, e, h⟩ := h
  obtain ⟨m, hn, hl⟩ := I.loc
  obtain ⟨u, r, l⟩ := hl i x v hN e hv
  have fin : EP X pins σ Q u s := ⟨v, H, I, r, h⟩
  rcases l with ⟨hk, hm⟩ | ⟨hk, c, hc, hcell⟩
  · exact wpAny_Name (wpAny_loadName_local I.ok.kind hk hn hm fin) hd
  · rcases hk with hk | hk
    · exact wpAny_Name (wpAny_loadName_cell I.ok.kind hk hc hcell fin) hd
    · exact wpAny_Name (wpAny_loadName_free I.ok.kind hk hc hcell fin hcd) hd
theorem pe_int {i j pos} : PE X (.Constant (.int i) j pos) (tC (.int i)) := fun _ _ _ H _ I h => wpAny_Constant_int ⟨.int i, H, I.tok _, ⟨_, rfl⟩, h⟩
theorem pe_bl {b j pos} : PE X (.Constant (.bool b) j pos) (tC (.bl b)) := fun _ _ _ H _ I h => Constant_bool ⟨.bl b, H, I, rfl, h⟩
theorem pe_non {j pos} : PE X (.Constant .none j pos) (tC .non) := fun _ _ _ H _ I h => Constant_none ⟨.non, H, I, rfl, h⟩
theorem pe_str {x j pos} : PE X (.Constant (.str x) j pos) (tC (.str x)) := fun _ _ _ H _ I h => Calls.Constant_str ⟨.str x, H, I.tok _, ⟨_, rfl⟩, h⟩

/-- a global name of the def -/
def Gl (X : Cx) (x : Str) : Prop := X.env.kindOf x = some .globalImplicit
theorem ld_glob {E : Value → Shared → Prop} {pins : List (Addr × Obj)} {s : Shared} {σ : St} {H : Hp} {x : Str} {u : Value} {pos : Pos} {Q : Value → Shared → Prop} (I : Inv X pins σ H s) (hg : Gl X x) (hm : X.mg x = some u) (h : Q u s)
    (hd : (x == ("__debug__" : Str)) = false := by decide) : wpAny (model X.prog X.w) X.A (eval (.Name x pos) X.env) Q E s :=
  Calls.Name_function_global I.ok.kind hg (Calls.loadGlobal_global (by rw [I.ok.glob]; exact I.mod.glob.keeps I.bk) hm h) hd
theorem ld_blt {E : Value → Shared → Prop} {pins : List (Addr × Obj)} {s : Shared} {σ : St} {H : Hp} {x : Str} {u : Value} {pos : Pos} {Q : Value → Shared → Prop} (I : Inv X pins σ H s) (hg : Gl X x) (hm : X.mg x = none) (hv : bootBuiltins x = some u) (h : Q u s)
    (hn : x ≠ "__name__" := by decide) (hd : (x == ("__debug__" : Str)) = false := by decide) : wpAny (model X.prog X.w) X.A (eval (.Name x pos) X.env) Q E s := by
  obtain ⟨mb, h1, h2⟩ := I.mod.blt
  exact Calls.Name_function_global I.ok.kind hg (Calls.loadGlobal_builtin (by rw [I.ok.glob]; exact I.mod.glob.keeps I.bk) hm (by rw [I.ok.blt]; exact h1.keeps I.bk) ((h2 x hn).trans hv) h) hd
/-- a module's constant, a class, a function, as a value -/
theorem pe_glob {x : Str} {v : V} {u : Value} {pos : Pos} (hg : Gl X x) (hm : X.mg x = some u) (r : RelV v u) (hd : (x == ("__debug__" : Str)) = false := by decide) : PE X (.Name x pos) (tC v) :=
  fun _ _ _ H _ I h => ld_glob I hg hm ⟨v, H, I, r, h⟩ hd
theorem pe_bltn {x : Str} {v : V} {u : Value} {pos : Pos} (hg : Gl X x) (hm : X.mg x = none) (hv : bootBuiltins x = some u) (r : RelV v u) (hn : x ≠ "__name__" := by decide) (hd : (x == ("__debug__" : Str)) = false := by decide) : PE X (.Name x pos) (tC v) :=
  fun _ _ _ H _ I h => ld_blt I hg hm hv ⟨v, H, I, r, h⟩ hn hd

/-! ### arithmetic -/
variable {a b : Expr} {ta tb : TE} {pos : Pos}

/-! ### comparisons -/
/-- a comparison as a value, as a test -/
def tB (t : TE) : TT := fun σ H Q => t σ H fun x H1 => ∃ c, x = .bl c ∧ Q c H1
/-- an expression whose value is a bool, as a test -/
theorem pt_val {e : Expr} {t : TE} (h : PE X e t) (he : ∀ whole, isTrue e X.env whole = (do let v ← whole; standAt e.pos; holding [v] (truthy v)) := by intro _; rfl) : PT X e (tB t) := by
  intro pins s σ H Q I hw
  refine isTrue_plain (thn (h pins s σ H _ I hw) fun v s1 ⟨x, H1, I1, r1, q1⟩ => ?_) (he _)
  obtain ⟨d, rfl, q⟩ := q1
  cases r1
  exact wpAny_truthy_bool ⟨H1, I1, q⟩

/-! ### and, or, not -/
variable {tA tB' : TT} {rest : List Expr}
def tAnd (t u : TT) : TT := fun σ H Q => t σ H fun c H1 => if c = true then u σ H1 Q else Q false H1
def tOr (t u : TT) : TT := fun σ H Q => t σ H fun c H1 => if c = true then Q true H1 else u σ H1 Q
def tNot (t : TT) : TT := fun σ H Q => t σ H fun c H1 => Q (!c) H1
theorem pw_and1 (ha : PT X a tA) : PW X (.BoolOp .And [a] pos) tA := by
  intro wh pins s σ H Q I h
  refine isTrue_and (thn (ha pins s σ H Q I h) fun c s1 e => ?_)
  cases c with
  | true => exact isTrue_and_nil e
  | false => exact e
theorem pw_or1 (ha : PT X a tA) : PW X (.BoolOp .Or [a] pos) tA := by
  intro wh pins s σ H Q I h
  refine isTrue_or (thn (ha pins s σ H Q I h) fun c s1 e => ?_)
  cases c with
  | false => exact isTrue_or_nil e
  | true => exact e
theorem pw_and (ha : PT X a tA) (hb : PW X (.BoolOp .And (b :: rest) pos) tB') : PW X (.BoolOp .And (a :: b :: rest) pos) (tAnd tA tB') := by
  intro wh pins s σ H Q I h
  refine isTrue_and (thn (ha pins s σ H _ I h) fun c s1 ⟨H1, I1, q1⟩ => ?_)
  cases c with
  | true => exact hb wh pins s1 σ H1 Q I1 q1
  | false => exact ⟨H1, I1, q1⟩
theorem pw_or (ha : PT X a tA) (hb : PW X (.BoolOp .Or (b :: rest) pos) tB') : PW X (.BoolOp .Or (a :: b :: rest) pos) (tOr tA tB') := by
  intro wh pins s σ H Q I h
  refine isTrue_or (thn (ha pins s σ H _ I h) fun c s1 ⟨H1, I1, q1⟩ => ?_)
  cases c with
  | true => exact ⟨H1, I1, q1⟩
  | false => exact hb wh pins s1 σ H1 Q I1 q1
theorem pt_not (ha : PT X a tA) : PT X (.UnaryOp .Not a pos) (tNot tA) := by
  intro pins s σ H Q I h
  exact isTrue_not (ha pins s σ H (fun c H1 => Q (!c) H1) I h)
/-- .. as values (bools) -/
def tAndV (ta tb : TE) : TE := fun σ H Q => ta σ H fun x H1 => ∃ c, x = .bl c ∧ if c = true then tb σ H1 Q else Q (.bl false) H1
def tNotV (ta : TE) : TE := fun σ H Q => ta σ H fun x H1 => ∃ c, x = .bl c ∧ Q (.bl (!c)) H1
theorem pe_one {op} {t : TE} (h : PE X a t) : PE X (.BoolOp op [a] pos) t := fun pins s σ H Q I hw => BoolOp_one (h pins s σ H Q I hw)
theorem pe_and (ha : PE X a ta) (hb : PE X (.BoolOp .And (b :: rest) pos) tb) : PE X (.BoolOp .And (a :: b :: rest) pos) (tAndV ta tb) := by
  intro pins s σ H Q I h
  refine BoolOp_and (thn (ha pins s σ H _ I h) fun v s1 ⟨x, H1, I1, r1, q1⟩ => ?_)
  obtain ⟨c, rfl, q1⟩ := q1
  cases r1
  refine wpAny_truthy_bool ?_
  cases c with
  | true => exact hb pins s1 σ H1 Q I1 q1
  | false => exact ⟨.bl false, H1, I1, rfl, q1⟩
theorem pe_not (ha : PE X a ta) : PE X (.UnaryOp .Not a pos) (tNotV ta) := by
  intro pins s σ H Q I h
  refine UnaryOp_ (thn (ha pins s σ H _ I h) fun v s1 ⟨x, H1, I1, r1, q1⟩ => ?_)
  obtain ⟨c, rfl, q1⟩ := q1
  cases r1
  exact not_of (wpAny_truthy_bool ⟨.bl (!c), H1, I1, rfl, q1⟩)
end
end L2

namespace L2
open PySem PySem.Spec PyProof.Rows

/-! ### a list, a tuple that is read: tracked, frozen, or an object of the module -/
def SqL (K : PySem.W.Frag) (H : Hp) (a : Addr) (xs : List V) : Prop :=
  Rd H a (.lst xs) ∨
    ∃ (o : Obj) (its : Array Value) (n : Nat), K.lookup a = some o ∧ o.cls = .type "list" ∧ o.dict = none ∧ o.data = .seq its n ∧ its.size ≤ sizeLine ∧ Vals xs its.toList
def SqT (K : PySem.W.Frag) (H : Hp) (a : Addr) (xs : List V) : Prop :=
  Rd H a (.tup xs) ∨
    ∃ (o : Obj) (its : Array Value) (n : Nat), K.lookup a = some o ∧ o.cls = .type "tuple" ∧ o.data = .seq its n ∧ its.size ≤ sizeLine ∧ Vals xs its.toList
def absV : Value → Option V
  | .none => some .non
  | .bool b => some (.bl b)
  | .int i _ => some (.int i)
  | .str x _ => some (.str x)
  | .bytes b _ => some (.byt b)
  | .float b _ => some (.flt b)
  | .ref a => some (.ref a)
  | .type n => some (.ty n)
  | _ => none
theorem RelV.abs {x : V} {u : Value} (r : RelV x u) : absV u = some x := by
  cases x with
  | non => cases r; rfl
  | bl _ => cases r; rfl
  | int _ => obtain ⟨t, rfl⟩ := r; rfl
  | str _ => obtain ⟨t, rfl⟩ := r; rfl
  | byt _ => obtain ⟨t, rfl⟩ := r; rfl
  | flt _ => obtain ⟨t, rfl⟩ := r; rfl
  | ref _ => cases r; rfl
  | ty _ => cases r; rfl
theorem RelV.inj {x y : V} {u : Value} (r : RelV x u) (q : RelV y u) : x = y := Option.some.inj (r.abs.symm.trans q.abs)
theorem Vals.inj : ∀ {xs ys : List V} {us : List Value}, Vals xs us → Vals ys us → xs = ys
  | _, _, _, .nil, .nil => rfl
  | _, _, _, .cons r t, .cons r' t' => by rw [r.inj r', Vals.inj t t']
section
variable {X : Cx} {pins : List (Addr × Obj)} {σ : St} {H : Hp} {s : Shared} {a : Addr} {xs ys : List V}
theorem SqL.of {K : PySem.W.Frag} (h : H a = some (.lst xs)) : SqL K H a xs := .inl (.inl h)
theorem SqT.of {K : PySem.W.Frag} (h : H a = some (.tup xs)) : SqT K H a xs := .inl (.inl h)
theorem Inv.list (I : Inv X pins σ H s) (h : SqL X.K H a xs) : ∃ its : List Value, Vals xs its ∧ PlainL s.heap a its.toArray ∧ xs.length ≤ sizeLine := by
  rcases h with h | ⟨o, its, n, hk, hc, hd, hs, hz, r⟩
  · obtain ⟨z, its, n, r, e⟩ := h.ok I.hok
    exact ⟨its, r, ⟨_, n, e, rfl, rfl, rfl⟩, z⟩
  · refine ⟨its.toList, r, ⟨o, n, I.kIn a o hk, hc, hd, by simpa using hs⟩, ?_⟩
    have e := r.length
    simp only [Array.length_toList] at e
    omega
theorem Inv.tuple (I : Inv X pins σ H s) (h : SqT X.K H a xs) : ∃ its : List Value, Vals xs its ∧ IsTup s.heap a its.toArray ∧ xs.length ≤ sizeLine := by
  rcases h with h | ⟨o, its, n, hk, hc, hs, hz, r⟩
  · obtain ⟨z, its, r, p⟩ := h.ok I.hok
    exact ⟨its, r, p, z⟩
  · refine ⟨its.toList, r, ⟨o, I.kIn a o hk, hc, n, by simpa using hs⟩, ?_⟩
    have e := r.length
    simp only [Array.length_toList] at e
    omega
theorem Inv.list_inj (I : Inv X pins σ H s) (h : SqL X.K H a xs) (h' : SqL X.K H a ys) : xs = ys := by
  obtain ⟨its, r, ⟨o, n, e, _, _, d⟩, _⟩ := I.list h
  obtain ⟨its', r', ⟨o', n', e', _, _, d'⟩, _⟩ := I.list h'
  rw [e] at e'; cases e'
  rw [d] at d'
  injection d' with d1 _
  have : its = its' := by simpa using congrArg Array.toList d1
  subst this
  exact r.inj r'
end

/-! ### another wish about exceptions -/
abbrev Cx.wish (X : Cx) (E : Value → Shared → Prop) : Cx := { X with xe := E }
/-- no exception leaves -/
abbrev Cx.nox (X : Cx) : Cx := X.wish fun _ _ => False
theorem Cx.Ok.wish {X : Cx} (ok : X.Ok) (E : Value → Shared → Prop) : (X.wish E).Ok :=
  ⟨ok.mod, ok.kind, ok.glob, ok.blt, ok.above, ok.inj, ok.has, ok.cab, ok.hd, ok.frames, ok.stk, ok.exf, ok.bs, ok.bsz, ok.noex, ok.exfs, ok.funs, ok.frf⟩
theorem Cx.Ok.unwish {X : Cx} {E : Value → Shared → Prop} (ok : (X.wish E).Ok) : X.Ok :=
  ⟨ok.mod, ok.kind, ok.glob, ok.blt, ok.above, ok.inj, ok.has, ok.cab, ok.hd, ok.frames, ok.stk, ok.exf, ok.bs, ok.bsz, ok.noex, ok.exfs, ok.funs, ok.frf⟩
section
variable {X : Cx} {pins : List (Addr × Obj)} {σ : St} {H : Hp} {s : Shared} {E : Value → Shared → Prop}
theorem Inv.wish (I : Inv X pins σ H s) (E : Value → Shared → Prop) : Inv (X.wish E) pins σ H s := ⟨I.ok.wish E, I.os, I.bare, I.base, I.loc, I.cell, I.free, I.freeC, I.pin, I.hok, I.len⟩
theorem Inv.unwish (I : Inv (X.wish E) pins σ H s) : Inv X pins σ H s := ⟨I.ok.unwish, I.os, I.bare, I.base, I.loc, I.cell, I.free, I.freeC, I.pin, I.hok, I.len⟩
theorem SP.unwish {D : Ends} {f : Flow} {s' : Shared} (h : SP (X.wish E) pins D f s') : SP X pins D f s' := by
  cases f with
  | next => obtain ⟨σ', H', I, q⟩ := h; exact ⟨σ', H', I.unwish, q⟩
  | brk => obtain ⟨σ', H', I, q⟩ := h; exact ⟨σ', H', I.unwish, q⟩
  | cont => obtain ⟨σ', H', I, q⟩ := h; exact ⟨σ', H', I.unwish, q⟩
  | ret u => obtain ⟨v, σ', H', I, r, q⟩ := h; exact ⟨v, σ', H', I.unwish, r, q⟩
theorem PSs.nox {st : List Stmt} {t : TS} (h : PSs X.nox st t) : PSs X st t := fun pins s σ H D I hw =>
  wpAny_mono (h pins s σ H D (I.wish _) hw) (fun _ _ q => q.unwish) fun _ _ z => False.elim z
end

/-! ### blocks and small statements -/
section
variable {X : Cx} {st : Stmt} {rest : List Stmt} {t u : TS} {e : Expr} {te : TE} {pos : Pos}
def tNext : TS := fun D σ H => D.nx σ H
def tSeq (t u : TS) : TS := fun D σ H => t { D with nx := u D } σ H
theorem pss_nil : PSs X [] tNext := fun _ _ σ H _ I h => wpAny_execs_nil ⟨σ, H, I, h⟩
theorem pss_cons (h1 : PS X st t) (h2 : PSs X rest u) : PSs X (st :: rest) (tSeq t u) := by
  intro pins s σ H D I h
  refine wpAny_execs_cons (thn (h1 pins s σ H { D with nx := u D } I h) fun f s1 q => ?_)
  cases f with
  | next =>
    obtain ⟨σ', H', I', q⟩ := q
    exact h2 pins s1 σ' H' D I' q
  | ret v => exact q
  | brk => exact q
  | cont => exact q
theorem pss_one (h1 : PS X st t) : PSs X [st] t := by
  intro pins s σ H D I h
  refine wpAny_execs_cons (thn (h1 pins s σ H D I h) fun f s1 q => ?_)
  cases f with
  | next => exact wpAny_execs_nil q
  | ret v => exact q
  | brk => exact q
  | cont => exact q
/-- in a def's body nothing is shown -/
theorem Inv.quiet {pins : List (Addr × Obj)} {σ : St} {H : Hp} {s : Shared} (I : Inv X pins σ H s) : interactive X.env = false := by simp [interactive, I.ok.kind]
/-- an expression whose value is dropped -/
def tDrop (te : TE) : TS := fun D σ H => te σ H fun _ H1 => D.nx σ H1
theorem ps_expr (he : PE X e te) (hs : swapsWith e none pos.line X.env = pure false := by rfl) : PS X (.Expr e pos) (tDrop te) := by
  intro pins s σ H D I h
  exact wpAny_Expr_any (thn (he pins s σ H _ I h) fun v s1 ⟨x, H1, I1, r1, q1⟩ => ⟨σ, H1, I1, q1⟩) I.quiet hs
def tRet (te : TE) : TS := fun D σ H => te σ H D.rt
theorem ps_ret (he : PE X e te) : PS X (.Return (some e) pos) (tRet te) := by
  intro pins s σ H D I h
  exact wpAny_Return_some (thn (he pins s σ H _ I h) fun v s1 ⟨x, H1, I1, r1, q1⟩ => ⟨x, σ, H1, I1, r1, q1⟩)
def tIfS (c : TT) (t u : TS) : TS := fun D σ H => c σ H fun b H1 => if b = true then t D σ H1 else u D σ H1
theorem ps_if {c : Expr} {a b : List Stmt} {tc : TT} (hc : PT X c tc) (ha : PSs X a t) (hb : PSs X b u) : PS X (.If c a b pos) (tIfS tc t u) := by
  intro pins s σ H D I h
  refine wpAny_If (thn (hc pins s σ H _ I h) fun d s1 ⟨H1, I1, q1⟩ => ?_)
  cases d with
  | true => exact ha pins s1 σ H1 D I1 q1
  | false => exact hb pins s1 σ H1 D I1 q1
/-- code that the proof never comes to -/
def tNever : TS := fun _ _ _ => False
theorem ps_never : PS X st tNever := fun _ _ _ _ _ _ h => h.elim
end

/-! ### targets -/
abbrev TG := V → St → Hp → (St → Hp → Prop) → Prop
abbrev TGs := List V → St → Hp → (St → Hp → Prop) → Prop
def PG (X : Cx) (target : Expr) (t : TG) : Prop :=
  ∀ (pins : List (Addr × Obj)) (s : Shared) (σ : St) (H : Hp) (v : V) (u : Value) (Q : St → Hp → Prop), Inv X pins σ H s → RelV v u → t v σ H Q →
    wpAny (model X.prog X.w) X.A (assign target X.env u) (fun _ s' => ∃ σ' H', Inv X pins σ' H' s' ∧ Q σ' H') X.xe s
/-- several targets, one after another -/
def PGs (X : Cx) (ts : List Expr) (t : TGs) : Prop :=
  ∀ (pins : List (Addr × Obj)) (s : Shared) (σ : St) (H : Hp) (vs : List V) (us : List Value) (Q : St → Hp → Prop), Inv X pins σ H s → Vals vs us → t vs σ H Q →
    wpAny (model X.prog X.w) X.A (assignInOrder ((assignEach ts X.env).map (·.2)) us) (fun _ s' => ∃ σ' H', Inv X pins σ' H' s' ∧ Q σ' H') X.xe s
section
variable {X : Cx} {pos : Pos}
def gName (i : Nat) : TG := fun v σ H Q => Q (σ.set i (some v)) H
theorem pg_name {i : Nat} {x : Str} (hN : X.N.Nodup) (hi : X.N[i]? = some x) (hx : Loc X.env.scope x) (hf : X.fn x = true ∨ X.env.scope.names.lookup x = some .local := by first | exact .inl rfl | exact .inr rfl | assumption) : PG X (.Name x pos) (gName i) := by
  intro pins s σ H v u Q I r h
  exact wpAny_assign_Name (store_ok I hN hi hx r (fun s' I' => ⟨_, H, I', h⟩) hf)
def gNil : TGs := fun vs σ H Q => vs = [] ∧ Q σ H
def gCons (t : TG) (u : TGs) : TGs := fun vs σ H Q => ∃ v r, vs = v :: r ∧ t v σ H fun σ' H' => u r σ' H' Q
theorem pgs_nil : PGs X [] gNil := by
  intro pins s σ H vs us Q I r h
  obtain ⟨e, h⟩ := h
  subst e
  cases r
  exact assignInOrder_nil ⟨σ, H, I, h⟩
theorem pgs_cons {e : Expr} {es : List Expr} {t : TG} {u : TGs} (h1 : PG X e t) (h2 : PGs X es u)
    (hs : (assignEach (e :: es) X.env).map (·.2) = assign e X.env :: (assignEach es X.env).map (·.2) := by rfl) : PGs X (e :: es) (gCons t u) := by
  intro pins s σ H vs us Q I r h
  obtain ⟨v, vr, e1, h⟩ := h
  subst e1
  cases r with
  | cons r rr =>
    rw [hs]
    refine assignInOrder_cons (thn (h1 pins s σ H _ _ _ I r h) fun _ s1 ⟨σ1, H1, I1, q1⟩ => ?_)
    exact h2 pins s1 σ1 H1 _ _ Q I1 rr q1
/-- (a, b, ..) = a tuple of that length -/
def gTup (K : PySem.W.Frag) (n : Nat) (t : TGs) : TG := fun v σ H Q => ∃ a xs, v = .ref a ∧ SqT K H a xs ∧ xs.length = n ∧ t xs σ H Q
theorem pg_tup {es : List Expr} {k : Nat} {t : TGs} {n : Nat} (hc : X.calm = true) (h : PGs X es t)
    (hn : (assignEach es X.env).length = n := by rfl) (hst : (assignEach es X.env).findIdx? (·.1) = none := by rfl) : PG X (.Tuple es k pos) (gTup X.K n t) := by
  intro pins s σ H v u Q I r hw
  obtain ⟨a, xs, e1, hq, hl, hw⟩ := hw
  subst e1
  cases r
  obtain ⟨its, rv, ht, hz⟩ := I.tuple hq
  refine assign_Tuple_tuple (I.ok.hd hc) ht (by simp [hn, ← hl, rv.length]) hst fun h' hx => ?_
  have I1 : Inv X pins σ H { s with heap := h' } := I.kept (t' := s.toks) fun b o e => hx b o (Nat.ne_of_lt (Heap.lt_size e)) e
  exact h pins _ σ H xs _ Q I1 (by simpa using rv) hw
/-- target = value -/
def tAsg (te : TE) (g : TG) : TS := fun D σ H => te σ H fun x H1 => g x σ H1 D.nx
/-- name = value -/
theorem ps_set {i : Nat} {x : Str} {e : Expr} {te : TE} {pos' : Pos} (hN : X.N.Nodup) (hi : X.N[i]? = some x) (hx : Loc X.env.scope x) (he : PE X e te) (hs : swapsWith e (some (.Name x pos')) pos.line X.env = pure false := by rfl) (hf : X.fn x = true ∨ X.env.scope.names.lookup x = some .local := by first | exact .inl rfl | exact .inr rfl | assumption) :
    PS X (.Assign [.Name x pos'] e pos) (tAsg te (gName i)) := by
  intro pins s σ H D I h
  refine wpAny_Assign_Name (thn (he pins s σ H _ I h) fun v s1 ⟨y, H1, I1, r1, q1⟩ => ?_) hs
  exact store_ok I1 hN hi hx r1 (fun s2 I2 => ⟨_, H1, I2, q1⟩) hf
end

/-! ### while -/
section
variable {X : Cx} {pos : Pos}
end

/-! ### what a loop or a comprehension walks -/
/-- at turn i: it yields x (the heap may grow), or it stops -/
structure It where
  go : Nat → Hp → Prop
  yld : Nat → Hp → V → Hp → Prop
  stop : Nat → Hp → Prop
/-- the iterator's own objects may turn: they are not the frame's, not pinned, younger than the entry (or a comprehension's own) -/
def FpOk (X : Cx) (pins : List (Addr × Obj)) (H : Hp) (b : Addr) : Prop :=
  H b = none ∧ b ≠ X.env.locals ∧ b ∉ X.fs ∧ (b ∈ X.ex ∨ X.s₀.heap.objs.size ≤ b) ∧ (∀ x c, X.env.cells.lookup x = some c → c ≠ b) ∧ ∀ p ∈ X.pn ++ pins, p.1 ≠ b
theorem Inv.fpOk {X : Cx} {pins : List (Addr × Obj)} {σ : St} {H H' : Hp} {s : Shared} {b : Addr} (I : Inv X pins σ H s) (hb : s.heap.objs.size ≤ b) (hn : H' b = none) : FpOk X pins H' b := by
  refine ⟨hn, Nat.ne_of_gt (Nat.lt_of_lt_of_le I.lt hb), I.nofs hb, .inr (Nat.le_trans I.sz hb), fun x c e z => ?_, fun p hp z => ?_⟩
  · obtain ⟨v, q⟩ := I.cell x c e
    exact absurd (Nat.lt_of_lt_of_le q.lt (by rw [z]; exact hb)) (Nat.lt_irrefl _)
  · exact absurd (Nat.lt_of_lt_of_le (Heap.lt_size (I.pin p hp).1) (by rw [z]; exact hb)) (Nat.lt_irrefl _)
structure Turn (P : Program) (w : World) (K : PySem.W.Frag) (tg : Expr) (J : It) (fp : List Addr) (it : Addr) (tn : Nat → Heap → Prop) : Prop where
  mem : it ∈ fp
  obj : ∀ i h, tn i h → ∀ b ∈ fp, ∃ o, h.get? b = some o ∧ ∀ v, o.data ≠ .cell v
  keep : ∀ i h h', tn i h → (∀ b ∈ fp, ∀ o, h.get? b = some o → h'.get? b = some o) → tn i h'
  item : ∀ (X : Cx), X.prog = P → X.w = w → X.K = K → X.calm = true → ∀ (i : Nat) (pins : List (Addr × Obj)) (s : Shared) (σ : St) (H : Hp) (E : Value → Shared → Prop), Inv X pins σ H s → (∀ b ∈ fp, FpOk X pins H b) → tn i s.heap → J.go i H →
    wpAny (model P w) X.A (pyNext (.ref it)) (fun r s1 => ∃ u, r = some u ∧
      wpAny (model P w) X.A (letOwnedTupleGo tg (.ref it) u) (fun _ s2 => ∃ x H', Inv X pins σ H' s2 ∧ RelV x u ∧ J.yld i H x H' ∧ tn (i + 1) s2.heap ∧ ∀ b ∈ fp, H' b = none) E s1) E s
  done : ∀ (X : Cx), X.prog = P → X.w = w → X.K = K → X.calm = true → ∀ (i : Nat) (pins : List (Addr × Obj)) (s : Shared) (σ : St) (H : Hp) (E : Value → Shared → Prop), Inv X pins σ H s → (∀ b ∈ fp, FpOk X pins H b) → tn i s.heap → J.stop i H →
    wpAny (model P w) X.A (pyNext (.ref it)) (fun r s1 => r = none ∧ Inv X pins σ H s1) E s
  self : ∀ (A : Around) (i : Nat) (s : Shared) (Q : Value → Shared → Prop) (E : Value → Shared → Prop), tn i s.heap → Q (.ref it) s → wpAny (model P w) A (pyIter (.ref it)) Q E s
abbrev TI := St → Hp → (It → Hp → Prop) → Prop
/-- an iterator has come -/
def PIE (X : Cx) (pins : List (Addr × Obj)) (σ : St) (tg : Expr) (R : It → Hp → Prop) (itv : Value) (s2 : Shared) : Prop :=
  ∃ (it : Addr) (fp : List Addr) (tn : Nat → Heap → Prop) (J : It) (H' : Hp), itv = .ref it ∧ Inv X pins σ H' s2 ∧ Turn X.prog X.w X.K tg J fp it tn ∧ tn 0 s2.heap ∧ (∀ b ∈ fp, FpOk X pins H' b) ∧ R J H'
def PI (X : Cx) (tg iter : Expr) (wi : TI) : Prop :=
  ∀ (pins : List (Addr × Obj)) (s : Shared) (σ : St) (H : Hp) (R : It → Hp → Prop), Inv X pins σ H s → wi σ H R →
    wpAny (model X.prog X.w) X.A (eval iter X.env) (fun v s1 => wpAny (model X.prog X.w) X.A (pyIter v) (PIE X pins σ tg R) X.xe s1) X.xe s

/-- the step ahead of the store is nothing for an iterator that keeps no tuple -/
theorem go_of {M : Model} {A : Around} {E : Value → Shared → Prop} {s : Shared} {tg : Expr} {it : Addr} {u : Value} {o : Obj} {n : String} {vs : Array Value} {Q : Unit → Shared → Prop} (ho : s.heap.get? it = some o) (hc : o.cls = .type n) (hd : o.data = .fields vs)
    (hn : ["enumerate", "zip", "dict_itemiterator", "dict_reverseitemiterator", "odict_iterator", "itertools.zip_longest", "itertools.pairwise"].contains n = false) (hQ : Q () s) : wpAny M A (letOwnedTupleGo tg (.ref it) u) Q E s := by
  unfold letOwnedTupleGo
  cases tg <;> first
    | exact wpAny_pure hQ
    | (cases u <;> first
        | exact wpAny_pure hQ
        | (refine wpAny_bind (wpAny_load ho ?_)
           rw [hc, hd]
           show wpAny M A (if (["enumerate", "zip", "dict_itemiterator", "dict_reverseitemiterator", "odict_iterator", "itertools.zip_longest", "itertools.pairwise"].contains n && vs[0]? == some (rawInt _)) = true then _ else _) Q E s
           rw [if_neg (by intro h; rw [hn, Bool.false_and] at h; cases h)]
           exact wpAny_pure hQ))

/-- the list at a, as it stands at each turn (a loop may append to it) -/
def Itl (K : PySem.W.Frag) (a : Addr) : It :=
  ⟨fun i H => ∃ xs x, SqL K H a xs ∧ xs[i]? = some x, fun i H x H' => H' = H ∧ ∀ xs, SqL K H a xs → xs[i]? = some x, fun i H => ∃ xs, SqL K H a xs ∧ xs.length ≤ i⟩
theorem turn_list {P : Program} {w : World} {K : PySem.W.Frag} {tg : Expr} (a it : Addr) : Turn P w K tg (Itl K a) [it] it (fun i h => h.IsListIter it a i) where
  mem := by simp
  obj := fun i h st b hb => by
    have e : b = it := by simpa using hb
    subst e
    obtain ⟨o, e, c, d⟩ := st
    exact ⟨o, e, fun v z => by rw [d] at z; cases z⟩
  keep := fun i h h' st k => st.at fun o e => k it (by simp) o e
  item := by
    intro X hP hw hK hc i pins s σ H E I hf st hg
    subst hP hw hK
    obtain ⟨xs, x, hq, hx⟩ := hg
    obtain ⟨its, rv, p, hz⟩ := I.list hq
    obtain ⟨u, hu, ru⟩ := rv.get hx
    obtain ⟨f0, f1, f2, f3, f4, f5⟩ := hf it (by simp)
    refine wpAny_pyNext_list_item st p.isList (x := u) (by simpa using hu) fun h' st' sb => ?_
    have I1 : Inv X pins σ H { s with heap := h' } := I.turned (t' := s.toks) (fun b o hb e => (sb.2 b hb).trans e) f0 f1 f3 f4 f5
    obtain ⟨o, e, c, d⟩ := id st'
    exact ⟨u, rfl, go_of (s := { s with heap := h' }) e c d (by decide) ⟨x, H, I1, ru, ⟨rfl, fun ys hy => by rw [I.list_inj hy hq]; exact hx⟩, st', fun b hb => (hf b hb).1⟩⟩
  done := by
    intro X hP hw hK hc i pins s σ H E I hf st hg
    subst hP hw hK
    obtain ⟨xs, hq, hx⟩ := hg
    obtain ⟨its, rv, p, hz⟩ := I.list hq
    obtain ⟨f0, f1, f2, f3, f4, f5⟩ := hf it (by simp)
    have hl := rv.length
    exact wpAny_pyNext_list_end (I.ok.hd hc) st p.isList (by simp; omega) fun h' eb => ⟨rfl, I.turned (t' := s.toks) (fun b o hb e => eb b o hb e) f0 f1 f3 f4 f5⟩
  self := fun _ _ _ _ _ st h => wpAny_pyIter_listiter st h
end L2

namespace L2
open PySem PySem.Spec PyProof.Rows
section
variable {X : Cx} {tg : Expr}
def iList (K : PySem.W.Frag) (tl : TE) : TI := fun σ H R => tl σ H fun x H1 => ∃ a, x = .ref a ∧ (∃ xs, SqL K H1 a xs) ∧ R (Itl K a) H1
theorem pi_list {l : Expr} {tl : TE} (hl : PE X l tl) : PI X tg l (iList X.K tl) := by
  intro pins s σ H R I h
  refine thn (hl pins s σ H _ I h) fun v s1 ⟨x, H1, I1, r1, q1⟩ => ?_
  obtain ⟨a, e, ⟨xs, hq⟩, q⟩ := q1
  subst e
  cases r1
  obtain ⟨its, rv, p, hz⟩ := I1.list hq
  refine wpAny_pyIter_list p.isList ?_
  refine ⟨s1.heap.objs.size, [s1.heap.objs.size], _, _, H1, rfl, I1.kept (t' := s1.toks) fun b o e => Heap.get?_push_of_some _ e, turn_list a _, ⟨_, Heap.get?_push_size _ rfl, rfl, rfl⟩, fun b hb => ?_, q⟩
  have e : b = s1.heap.objs.size := by simpa using hb
  subst e
  exact I1.fpOk (Nat.le_refl _) (I1.hok.fresh (Nat.le_refl _))

/-! ### for -/
/-- W: the invariant by the turn and a measure; N: what the body is to reach -/
def tFor (wi : TI) (g : TG) (tb : TS) : TS := fun D σ H => wi σ H fun J H1 => ∃ W : Nat → Nat → St → Hp → Prop, (∃ m, W 0 m σ H1) ∧ ∀ i m σ H, W i m σ H →
  (J.stop i H ∧ D.nx σ H) ∨ (J.go i H ∧ ∃ N : St → Hp → Prop, (∀ σ' H', N σ' H' → ∃ m', m' < m ∧ W (i + 1) m' σ' H') ∧ ∀ x H', J.yld i H x H' → g x σ H' fun σ2 H2 => tb { D with nx := N, ct := N, bk := D.nx } σ2 H2)
/-- the records at fp as they stand -/
def pinsAt (fp : List Addr) (h : Heap) : List (Addr × Obj) := fp.filterMap fun b => (h.get? b).map fun o => (b, o)
theorem mem_pinsAt {fp : List Addr} {h : Heap} {b : Addr} {o : Obj} (hb : b ∈ fp) (e : h.get? b = some o) : (b, o) ∈ pinsAt fp h := List.mem_filterMap.mpr ⟨b, hb, by rw [e]; rfl⟩
theorem of_pinsAt {fp : List Addr} {h : Heap} {p : Addr × Obj} (hp : p ∈ pinsAt fp h) : p.1 ∈ fp ∧ h.get? p.1 = some p.2 := by
  obtain ⟨b, hb, e⟩ := List.mem_filterMap.mp hp
  cases q : h.get? b with
  | none => rw [q] at e; cases e
  | some o =>
    rw [q] at e
    have e' : (b, o) = p := Option.some.inj e
    subst e'
    exact ⟨hb, q⟩
theorem Inv.pinned {pins : List (Addr × Obj)} {σ : St} {H : Hp} {s : Shared} {fp : List Addr} (I : Inv X pins σ H s) (hf : ∀ b ∈ fp, FpOk X pins H b) (ho : ∀ b ∈ fp, ∃ o, s.heap.get? b = some o ∧ ∀ v, o.data ≠ .cell v) : Inv X (pins ++ pinsAt fp s.heap) σ H s :=
  I.pins_of fun p hp => (List.mem_append.mp hp).elim (fun z => I.pin p (List.mem_append_right _ z)) fun z => by
    obtain ⟨hb, e⟩ := of_pinsAt z
    obtain ⟨f0, f1, f2, _⟩ := hf p.1 hb
    obtain ⟨o, e', d⟩ := ho p.1 hb
    rw [e] at e'; cases e'
    exact ⟨e, f0, f1, f2, d⟩
theorem Inv.unpinned {pins pl : List (Addr × Obj)} {σ : St} {H : Hp} {s : Shared} (I : Inv X (pins ++ pl) σ H s) : Inv X pins σ H s := I.pins_of fun p hp => I.pin p (List.mem_append_right _ (List.mem_append_left _ hp))
theorem ps_for {iter : Expr} {body : List Stmt} {wi : TI} {g : TG} {tb : TS} {pos : Pos} (hp : PassesOwn (model X.prog X.w) X.A X.env X.xe) (hc : X.calm = true) (hi : PI X tg iter wi) (hg : PG X tg g) (hb : PSs X body tb)
    (hs : ∀ x, foldedSetIterable iter X.env x = pure x := by intro _; rfl) : PS X (.For tg iter body [] pos) (tFor wi g tb) := by
  intro pins s σ H D I h
  refine wpAny_For (thn (hi pins s σ H _ I h) fun v s1 h1 => thn h1 fun itv s2 h2 => ?_) hs
  obtain ⟨it, fp, tn, J, H2, e, I2, T, st2, f2, W, ⟨m0, w0⟩, turn⟩ := h2
  subst e
  -- what stays true of the iterator's objects through the loop
  have stat : ∀ {H' : Hp}, (∀ b ∈ fp, H' b = none) → ∀ b ∈ fp, FpOk X pins H' b := fun hn b hb => ⟨hn b hb, (f2 b hb).2⟩
  refine codeAny_forLoop_any (fun n s' => ∃ i σ' H', Inv X pins σ' H' s' ∧ tn i s'.heap ∧ (∀ b ∈ fp, H' b = none) ∧ W i n σ' H') ?_ m0 ⟨0, σ, H2, I2, st2, fun b hb => (f2 b hb).1, w0⟩
  rintro n s3 ⟨i, σ3, H3, I3, st3, fr3, w3⟩
  rcases turn i n σ3 H3 w3 with ⟨stop, qn⟩ | ⟨go, N, hN, step⟩
  · refine wpAny_passesOwn hp (thn (T.done X rfl rfl rfl hc i pins s3 σ3 H3 X.xe I3 (stat fr3) st3 stop) fun r s4 ⟨hr, I4⟩ => ?_)
    subst hr
    exact wpAny_execs_nil ⟨σ3, H3, I4, qn⟩
  · refine wpAny_passesOwn hp (thn (T.item X rfl rfl rfl hc i pins s3 σ3 H3 X.xe I3 (stat fr3) st3 go) fun r s4 ⟨u, hr, h4⟩ => ?_)
    subst hr
    refine wpAny_passesOwn hp (thn h4 fun _ s5 ⟨x, H5, I5, r5, y5, st5, fr5⟩ => ?_)
    have I5' := I5.pinned (stat fr5) (T.obj _ _ st5)
    refine wpAny_passesOwn hp (thn (hg _ s5 σ3 H5 x u _ I5' r5 (step x H5 y5)) fun _ s6 ⟨σ6, H6, I6, q6⟩ => ?_)
    refine wpAny_passesOwn hp (thn (hb _ s6 σ6 H6 _ I6 q6) fun f s7 q7 => ?_)
    have again : ∀ {σ7 : St} {H7 : Hp}, Inv X (pins ++ pinsAt fp s5.heap) σ7 H7 s7 → N σ7 H7 → ∃ m, m < n ∧ ∃ i σ' H', Inv X pins σ' H' s7 ∧ tn i s7.heap ∧ (∀ b ∈ fp, H' b = none) ∧ W i m σ' H' := fun {σ7 H7} I7 n7 => by
      obtain ⟨m', hm, w7⟩ := hN σ7 H7 n7
      refine ⟨m', hm, i + 1, σ7, H7, I7.unpinned, T.keep _ _ _ st5 fun b hb o e => (I7.pin (b, o) (List.mem_append_right _ (List.mem_append_right _ (mem_pinsAt hb e)))).1, fun b hb => ?_, w7⟩
      obtain ⟨o, e, d⟩ := T.obj _ _ st5 b hb
      exact (I7.pin (b, o) (List.mem_append_right _ (List.mem_append_right _ (mem_pinsAt hb e)))).2.1
    cases f with
    | next => obtain ⟨σ7, H7, I7, n7⟩ := q7; exact again I7 n7
    | cont => obtain ⟨σ7, H7, I7, n7⟩ := q7; exact again I7 n7
    | brk => obtain ⟨σ7, H7, I7, q7⟩ := q7; exact ⟨σ7, H7, I7.unpinned, q7⟩
    | ret v => obtain ⟨x7, σ7, H7, I7, r7, q7⟩ := q7; exact ⟨x7, σ7, H7, I7.unpinned, r7, q7⟩
end

/-! ### the forms one uses -/
/-- over a list that the body leaves as it is -/
theorem for_list {K : PySem.W.Frag} {a : Addr} {xs : List V} {g : TG} {tb : TS} {D : Ends} {σ : St} {H : Hp} (Pv : Nat → St → Hp → Prop) (h0 : Pv 0 σ H) (hl : ∀ i σ H, i ≤ xs.length → Pv i σ H → SqL K H a xs)
    (hs : ∀ i x σ H, xs[i]? = some x → Pv i σ H → g x σ H fun σ2 H2 => tb { D with nx := Pv (i + 1), ct := Pv (i + 1), bk := D.nx } σ2 H2) (hd : ∀ σ H, Pv xs.length σ H → D.nx σ H) :
    ∃ W : Nat → Nat → St → Hp → Prop, (∃ m, W 0 m σ H) ∧ ∀ i m σ H, W i m σ H →
      ((Itl K a).stop i H ∧ D.nx σ H) ∨ ((Itl K a).go i H ∧ ∃ N : St → Hp → Prop, (∀ σ' H', N σ' H' → ∃ m', m' < m ∧ W (i + 1) m' σ' H') ∧ ∀ x H', (Itl K a).yld i H x H' → g x σ H' fun σ2 H2 => tb { D with nx := N, ct := N, bk := D.nx } σ2 H2) := by
  refine ⟨fun i m σ H => m = xs.length - i ∧ i ≤ xs.length ∧ Pv i σ H, ⟨xs.length, by simp, Nat.zero_le _, h0⟩, ?_⟩
  rintro i m σ H ⟨rfl, hi, p⟩
  have q := hl i σ H hi p
  by_cases hlt : i < xs.length
  · refine .inr ⟨⟨xs, xs[i], q, by simp [hlt]⟩, Pv (i + 1), fun σ' H' p' => ⟨xs.length - (i + 1), by omega, rfl, hlt, p'⟩, fun x H' y => ?_⟩
    obtain ⟨e, y⟩ := y
    subst e
    exact hs i x σ _ (y xs q) p
  · have e : i = xs.length := by omega
    subst e
    exact .inl ⟨⟨xs, q, Nat.le_refl _⟩, hd σ H p⟩
end L2

namespace L2
open PySem PySem.Spec PyProof.Rows

abbrev R2 := V → V → Hp → VK → Prop
/-- a two-place operation on values: f is binaryOp op, inplaceOp op or compareOp op -/
def OpR (X : Cx) (f : Value → Value → Sem Value) (r : R2) : Prop :=
  ∀ (pins : List (Addr × Obj)) (s : Shared) (σ : St) (H : Hp) (x y : V) (v u : Value) (Q : VK), Inv X pins σ H s → RelV x v → RelV y u → r x y H Q →
    wpAny (model X.prog X.w) X.A (f v u) (EP X pins σ Q) X.xe s
/-- a call of a value that is known (a builtin, a type) with values -/
def CallR (X : Cx) (f : Value) (r : List V → Hp → VK → Prop) : Prop :=
  ∀ (pins : List (Addr × Obj)) (s : Shared) (σ : St) (H : Hp) (xs : List V) (us : List Value) (Q : VK), Inv X pins σ H s → Vals xs us → r xs H Q →
    wpAny (model X.prog X.w) X.A (call f us) (EP X pins σ Q) X.xe s

def tOp (r : R2) (ta tb : TE) : TE := fun σ H Q => ta σ H fun x H1 => tb σ H1 fun y H2 => r x y H2 Q
/-- ints in, under C, and a value out -/
def rI (C : Int → Int → Prop) (g : Int → Int → V) : R2 := fun x y H Q => ∃ i j, x = .int i ∧ y = .int j ∧ C i j ∧ Q (g i j) H
def rI0 (g : Int → Int → V) : R2 := fun x y H Q => ∃ i j, x = .int i ∧ y = .int j ∧ Q (g i j) H

section
variable {X : Cx} {a b c : Expr} {ta tb tc : TE} {pos : Pos}

theorem binT (ha : PE X a ta) (hb : PE X b tb) {pins : List (Addr × Obj)} {s : Shared} {σ : St} {H : Hp} {R : V → V → Hp → Prop} (I : Inv X pins σ H s)
    (h : ta σ H fun x H1 => tb σ H1 fun y H2 => R x y H2) {Q : Value → Shared → Prop} {f : Value → Value → Sem Value}
    (hf : ∀ v u s2 x y H2, Inv X pins σ H2 s2 → RelV x v → RelV y u → R x y H2 → wpAny (model X.prog X.w) X.A (f v u) Q X.xe s2) :
    wpAny (model X.prog X.w) X.A (eval a X.env) (fun v s₁ => wpAny (model X.prog X.w) X.A (eval b X.env) (fun u s₂ => wpAny (model X.prog X.w) X.A (f v u) Q X.xe s₂) X.xe s₁) X.xe s := by
  refine thn (ha pins s σ H _ I h) fun v s1 ⟨x, H1, I1, r1, q1⟩ => ?_
  refine thn (hb pins s1 σ H1 _ I1 q1) fun u s2 ⟨y, H2, I2, r2, q2⟩ => ?_
  exact hf v u s2 x y H2 I2 r1 r2 q2

theorem pe_op {op : Operator} {r : R2} (ho : OpR X (binaryOp op) r) (ha : PE X a ta) (hb : PE X b tb) : PE X (.BinOp a op b pos) (tOp r ta tb) := by
  intro pins s σ H Q I h
  exact wpAny_BinOp (binT ha hb I h fun v u s2 x y H2 I2 rx ry q => ho pins s2 σ H2 x y v u Q I2 rx ry q)

/-! ### ints -/
theorem opI {f : Value → Value → Sem Value} {C : Int → Int → Prop} {g : Int → Int → Int}
    (rule : ∀ (i j : Int) (t u : Tok) (s : Shared) (Q : Value → Shared → Prop) (E : Value → Shared → Prop), C i j → Q (.int (g i j) s.toks) { s with toks := s.toks + 1 } → wpAny (model X.prog X.w) X.A (f (.int i t) (.int j u)) Q E s) :
    OpR X f (rI C fun i j => .int (g i j)) := by
  intro pins s σ H x y v u Q I rx ry h
  obtain ⟨i, j, rfl, rfl, hc, q⟩ := h
  obtain ⟨t, rfl⟩ := rx
  obtain ⟨t', rfl⟩ := ry
  exact rule i j t t' s _ _ hc ⟨.int (g i j), H, I.tok _, ⟨_, rfl⟩, q⟩
theorem opI0 {f : Value → Value → Sem Value} {g : Int → Int → Int}
    (rule : ∀ (i j : Int) (t u : Tok) (s : Shared) (Q : Value → Shared → Prop) (E : Value → Shared → Prop), Q (.int (g i j) s.toks) { s with toks := s.toks + 1 } → wpAny (model X.prog X.w) X.A (f (.int i t) (.int j u)) Q E s) :
    OpR X f (rI0 fun i j => .int (g i j)) := by
  intro pins s σ H x y v u Q I rx ry h
  obtain ⟨i, j, rfl, rfl, q⟩ := h
  obtain ⟨t, rfl⟩ := rx
  obtain ⟨t', rfl⟩ := ry
  exact rule i j t t' s _ _ ⟨.int (g i j), H, I.tok _, ⟨_, rfl⟩, q⟩
theorem opB0 {f : Value → Value → Sem Value} {g : Int → Int → Bool}
    (rule : ∀ (i j : Int) (t u : Tok) (s : Shared) (Q : Value → Shared → Prop) (E : Value → Shared → Prop), Q (.bool (g i j)) s → wpAny (model X.prog X.w) X.A (f (.int i t) (.int j u)) Q E s) :
    OpR X f (rI0 fun i j => .bl (g i j)) := by
  intro pins s σ H x y v u Q I rx ry h
  obtain ⟨i, j, rfl, rfl, q⟩ := h
  obtain ⟨t, rfl⟩ := rx
  obtain ⟨t', rfl⟩ := ry
  exact rule i j t t' s _ _ ⟨.bl (g i j), H, I, rfl, q⟩

def CDiv (i j : Int) : Prop := 0 < j ∧ j < 1073741824
def CMul (i j : Int) : Prop := (-(2 ^ 64) < i ∧ i < 2 ^ 64) ∨ (-(2 ^ 64) < j ∧ j < 2 ^ 64)
theorem CMul.ok {i j : Int} (h : CMul i j) : IntMulOk i j := by
  rcases h with ⟨h1, h2⟩ | ⟨h1, h2⟩
  · exact .of_left (intBits_le_64 h1 h2)
  · exact .of_right (intBits_le_64 h1 h2)

theorem op_add : OpR X (binaryOp .Add) (rI0 fun i j => .int (i + j)) := opI0 fun _ _ _ _ _ _ _ q => add_int q
theorem op_sub : OpR X (binaryOp .Sub) (rI0 fun i j => .int (i - j)) := opI0 fun _ _ _ _ _ _ _ q => sub_int q
theorem op_mul : OpR X (binaryOp .Mult) (rI CMul fun i j => .int (i * j)) := opI fun _ _ _ _ _ _ _ hc q => mul_int q hc.ok
/-- // by a positive divisor -/
theorem op_fdiv : OpR X (binaryOp .FloorDiv) (rI CDiv fun i j => .int (i / j)) := opI fun i j _ _ _ _ _ hc q => by
  have h1 : (0 : Int) < j := hc.1
  have h2 : j < 1073741824 := hc.2
  exact floordiv_int (by omega) (by rw [Int.fdiv_eq_ediv_of_nonneg i (by omega)]; exact q) (.inl (PyProof.noPylong_small (by omega)))
/-- % by a positive divisor of any size -/
theorem op_mod : OpR X (binaryOp .Mod) (rI (fun _ j => 0 < j) fun i j => .int (i % j)) := opI fun i j _ _ _ _ _ hc q => by
  have h1 : (0 : Int) < j := hc
  exact mod_int' (by omega) (by rw [Int.fmod_eq_emod_of_nonneg i (by omega)]; exact q)



/-! ### bools among ints: n += (a < b) -/
end

/-! ### comparisons -/
/-- the scalars that == tells apart as data does -/
def scal : V → V → Bool
  | .non, .non => true | .non, .int _ => true | .int _, .non => true | .non, .bl _ => true | .bl _, .non => true | .non, .str _ => true | .str _, .non => true
  | .int _, .int _ => true | .bl _, .bl _ => true | .str _, .str _ => true | .byt _, .byt _ => true
  | .int _, .str _ => true | .str _, .int _ => true | .bl _, .str _ => true | .str _, .bl _ => true
  | _, _ => false
def rEq : R2 := fun x y H Q => scal x y = true ∧ Q (.bl (decide (x = y))) H
def rNe : R2 := fun x y H Q => scal x y = true ∧ Q (.bl (!decide (x = y))) H

theorem dec_int {i j : Int} : decide (V.int i = V.int j) = (i == j) := by
  rw [Bool.eq_iff_iff]
  simp
theorem dec_bl {i j : Bool} : decide (V.bl i = V.bl j) = (i == j) := by
  rw [Bool.eq_iff_iff]
  simp
theorem dec_str {i j : Str} : decide (V.str i = V.str j) = (i == j) := by
  rw [Bool.eq_iff_iff]
  simp
theorem dec_byt {i j : Array UInt8} : decide (V.byt i = V.byt j) = (i.toList == j.toList) := by
  rw [Bool.eq_iff_iff]
  cases i
  cases j
  simp

section
variable {X : Cx} {a b c : Expr} {ta tb tc : TE} {pos : Pos}
theorem fin_bl {pins : List (Addr × Obj)} {σ : St} {H : Hp} {s : Shared} {Q : VK} {k k' : Bool} (I : Inv X pins σ H s) (q : Q (.bl k) H) (e : k = k') : EP X pins σ Q (.bool k') s := by
  subst e
  exact ⟨.bl k, H, I, rfl, q⟩
theorem op_eq : OpR X (compareOp .Eq) rEq := by
  intro pins s σ H x y v u Q I rx ry h
  obtain ⟨hs, q⟩ := h
  cases x with
  | non =>
    cases rx
    cases y with
    | non => cases ry; exact PySem.EqNone.eq_none_none (fin_bl I q (by simp))
    | bl j => cases ry; exact PySem.EqNone.eq_none_bool (fin_bl I q (by simp))
    | int j => obtain ⟨t', rfl⟩ := ry; exact PySem.EqNone.eq_none_int (fin_bl I q (by simp))
    | str j => obtain ⟨t', rfl⟩ := ry; exact PySem.EqNone.eq_none_str (fin_bl I q (by simp))
    | _ => exact absurd (show false = true from hs) Bool.false_ne_true
  | bl i =>
    cases rx
    cases y with
    | non => cases ry; exact PySem.EqNone.eq_bool_none (fin_bl I q (by simp))
    | bl j => cases ry; exact eq_bool (fin_bl I q dec_bl)
    | str j => obtain ⟨t', rfl⟩ := ry; exact PySem.EqMixed.eq_bool_str (fin_bl I q (by simp))
    | _ => exact absurd (show false = true from hs) Bool.false_ne_true
  | int i =>
    obtain ⟨t, rfl⟩ := rx
    cases y with
    | non => cases ry; exact PySem.EqNone.eq_int_none (fin_bl I q (by simp))
    | int j => obtain ⟨t', rfl⟩ := ry; exact eq_int (fin_bl I q dec_int)
    | str j => obtain ⟨t', rfl⟩ := ry; exact PySem.EqMixed.eq_int_str (fin_bl I q (by simp))
    | _ => exact absurd (show false = true from hs) Bool.false_ne_true
  | str i =>
    obtain ⟨t, rfl⟩ := rx
    cases y with
    | non => cases ry; exact PySem.EqNone.eq_str_none (fin_bl I q (by simp))
    | bl j => cases ry; exact PySem.EqMixed.eq_str_bool (fin_bl I q (by simp))
    | int j => obtain ⟨t', rfl⟩ := ry; exact PySem.EqMixed.eq_str_int (fin_bl I q (by simp))
    | str j => obtain ⟨t', rfl⟩ := ry; exact eq_str (fin_bl I q dec_str)
    | _ => exact absurd (show false = true from hs) Bool.false_ne_true
  | byt i =>
    obtain ⟨t, rfl⟩ := rx
    cases y with
    | byt j => obtain ⟨t', rfl⟩ := ry; exact PySem.W.eq_bytes (fin_bl I q dec_byt)
    | _ => exact absurd (show false = true from hs) Bool.false_ne_true
  | _ => cases y <;> exact absurd (show false = true from hs) Bool.false_ne_true
theorem op_ne : OpR X (compareOp .NotEq) rNe := by
  intro pins s σ H x y v u Q I rx ry h
  obtain ⟨hs, q⟩ := h
  cases x with
  | non =>
    cases rx
    cases y with
    | non => cases ry; exact PySem.EqNone.ne_none_none (fin_bl I q (by simp))
    | bl j => cases ry; exact PySem.EqNone.ne_none_bool (fin_bl I q (by simp))
    | int j => obtain ⟨t', rfl⟩ := ry; exact PySem.EqNone.ne_none_int (fin_bl I q (by simp))
    | str j => obtain ⟨t', rfl⟩ := ry; exact PySem.EqNone.ne_none_str (fin_bl I q (by simp))
    | _ => exact absurd (show false = true from hs) Bool.false_ne_true
  | bl i =>
    cases rx
    cases y with
    | non => cases ry; exact PySem.EqNone.ne_bool_none (fin_bl I q (by simp))
    | bl j => cases ry; exact ne_bool (fin_bl I q (congrArg not dec_bl))
    | str j => obtain ⟨t', rfl⟩ := ry; exact PySem.EqMixed.ne_bool_str (fin_bl I q (by simp))
    | _ => exact absurd (show false = true from hs) Bool.false_ne_true
  | int i =>
    obtain ⟨t, rfl⟩ := rx
    cases y with
    | non => cases ry; exact PySem.EqNone.ne_int_none (fin_bl I q (by simp))
    | int j => obtain ⟨t', rfl⟩ := ry; exact ne_int (fin_bl I q (congrArg not dec_int))
    | str j => obtain ⟨t', rfl⟩ := ry; exact PySem.EqMixed.ne_int_str (fin_bl I q (by simp))
    | _ => exact absurd (show false = true from hs) Bool.false_ne_true
  | str i =>
    obtain ⟨t, rfl⟩ := rx
    cases y with
    | non => cases ry; exact PySem.EqNone.ne_str_none (fin_bl I q (by simp))
    | bl j => cases ry; exact PySem.EqMixed.ne_str_bool (fin_bl I q (by simp))
    | int j => obtain ⟨t', rfl⟩ := ry; exact PySem.EqMixed.ne_str_int (fin_bl I q (by simp))
    | str j => obtain ⟨t', rfl⟩ := ry; exact ne_str (fin_bl I q (congrArg not dec_str))
    | _ => exact absurd (show false = true from hs) Bool.false_ne_true
  | byt i =>
    obtain ⟨t, rfl⟩ := rx
    cases y with
    | byt j => obtain ⟨t', rfl⟩ := ry; exact PySem.W.ne_bytes (fin_bl I q (congrArg not dec_byt))
    | _ => exact absurd (show false = true from hs) Bool.false_ne_true
  | _ => cases y <;> exact absurd (show false = true from hs) Bool.false_ne_true

theorem op_lt : OpR X (compareOp .Lt) (rI0 fun i j => .bl (decide (i < j))) := opB0 fun _ _ _ _ _ _ _ q => lt_int q
theorem op_le : OpR X (compareOp .LtE) (rI0 fun i j => .bl (decide (i ≤ j))) := opB0 fun _ _ _ _ _ _ _ q => le_int q
theorem op_gt : OpR X (compareOp .Gt) (rI0 fun i j => .bl (decide (j < i))) := opB0 fun _ _ _ _ _ _ _ q => gt_int q




theorem nomark (b : Expr) {op : CmpOp} (h : op ≠ .In := by decide) (h2 : op ≠ .NotIn := by decide) : behindInMarks op b = false := by
  have e1 : (op == CmpOp.In) = false := by cases op <;> first | rfl | exact absurd rfl h
  have e2 : (op == CmpOp.NotIn) = false := by cases op <;> first | rfl | exact absurd rfl h2
  cases b <;> simp [behindInMarks, e1, e2]
/-- a comparison as a value; hm: nomark b, or (for in, not in) by with_unfolding_all rfl -/
theorem pe_cmpR {op : CmpOp} {r : R2} (ho : OpR X (compareOp op) r) (ha : PE X a ta) (hb : PE X b tb) (hm : behindInMarks op b = false) : PE X (.Compare a [op] [b] pos) (tOp r ta tb) := by
  intro pins s σ H Q I h
  exact wpAny_Compare1 (binT ha hb I h fun v u s2 x y H2 I2 rx ry q => ho pins s2 σ H2 x y v u Q I2 rx ry q) hm
/-- a reading of a value as a test -/
def tTest (t : TE) : TT := fun σ H Q => t σ H fun x H' => ∃ k, x = .bl k ∧ Q k H'
theorem pt_cmpR {op : CmpOp} {r : R2} (ho : OpR X (compareOp op) r) (ha : PE X a ta) (hb : PE X b tb) (hm : behindInMarks op b = false) : PT X (.Compare a [op] [b] pos) (tTest (tOp r ta tb)) := by
  intro pins s σ H Q I h
  refine wpAny_isTrue_Compare1 (thn (ha pins s σ H _ I h) fun v s1 ⟨x, H1, I1, r1, q1⟩ => thn (hb pins s1 σ H1 _ I1 q1) fun u s2 ⟨y, H2, I2, r2, q2⟩ =>
    thn (ho pins s2 σ H2 x y v u _ I2 r1 r2 q2) fun c s3 ⟨z, H3, I3, r3, k, e, q3⟩ => ?_) hm
  subst e
  cases r3
  exact wpAny_truthy_bool ⟨H3, I3, q3⟩

/-! ### truth -/
theorem line63 : (sizeLine : Nat) < 2 ^ 63 := by rw [sizeLine_eq]; decide

/-! ### strs and bytes -/
theorem op_add_str : OpR X (binaryOp .Add) (fun x y H Q => ∃ i j, x = .str i ∧ y = .str j ∧ i.length + j.length ≤ sizeLine ∧ Q (.str (i ++ j)) H) := by
  intro pins s σ H x y v u Q I rx ry h
  obtain ⟨i, j, rfl, rfl, hz, q⟩ := h
  obtain ⟨t, rfl⟩ := rx
  obtain ⟨t', rfl⟩ := ry
  exact add_str (fun t' tk => ⟨.str (i ++ j), H, I.tok _, ⟨_, rfl⟩, q⟩) hz


/-! ### scalar builtins, by CallR -/
theorem vals1 {x : V} {us : List Value} (r : Vals [x] us) : ∃ u, us = [u] ∧ RelV x u := by
  cases r with
  | cons r1 r2 => cases r2; exact ⟨_, rfl, r1⟩
theorem vals2 {x y : V} {us : List Value} (r : Vals [x, y] us) : ∃ u w', us = [u, w'] ∧ RelV x u ∧ RelV y w' := by
  cases r with
  | cons r1 r2 =>
    cases r2 with
    | cons r3 r4 => cases r4; exact ⟨_, _, rfl, r1, r3⟩
theorem call_str_int : CallR X (.type "str") (fun xs H Q => ∃ i, xs = [.int i] ∧ i.natAbs.log2 < 1920 ∧ Q (.str (toString i)) H) := by
  intro pins s σ H xs us Q I r h
  obtain ⟨i, rfl, hz, q⟩ := h
  obtain ⟨u, rfl, t, rfl⟩ := vals1 r
  exact PySem.P.str_of_int hz ⟨.str _, H, I.tok _, ⟨_, rfl⟩, q⟩
end
end L2

namespace L2
open PySem PySem.Spec PyProof.Rows

/-! ### an instance, its attributes a map -/
structure ObjM (h : Heap) (x dx C : Addr) (mA : Str → Option Value) : Prop where
  obj : h.get? x = some (PySem.W.instObj C dx)
  ns : h.Ns1 dx mA
  ne : dx ≠ x

theorem lookIn_ns {h : Heap} {dx : Addr} {mA : Str → Option Value} (n : h.Ns1 dx mA) : ∃ od, h.get? dx = some od ∧ ∀ name, PySem.W.lookIn name od = some (mA name) := by
  obtain ⟨o, es, ep, ho, hd, hk, _, hm⟩ := n
  refine ⟨o, ho, fun name => ?_⟩
  have e := hm name
  unfold nsFind findBy at e
  rw [← Array.find?_toList] at e
  unfold PySem.W.lookIn
  rw [hd]
  dsimp only
  split
  · rename_i y q
    rw [q] at e
    exact congrArg some e
  · rename_i q
    rw [q] at e
    have a : es.toList.any (·.refKey) = false := by
      rw [List.any_eq_false]
      intro y hy
      obtain ⟨z, t, hkey⟩ := hk y (Array.mem_toList_iff.mp hy)
      simp [DictEntry.refKey, hkey]
    have a' : ¬ es.toList.any (·.refKey) = true := by rw [a]; exact Bool.false_ne_true
    rw [if_neg a']
    exact congrArg some e

theorem ObjM.look {h : Heap} {x dx C : Addr} {mA : Str → Option Value} (I : ObjM h x dx C mA) : ∃ od, PySem.W.InstAt h x (PySem.W.instObj C dx) C (some od) ∧ ∀ name, PySem.W.lookIn name od = some (mA name) :=
  let ⟨od, ho, hl⟩ := lookIn_ns I.ns
  ⟨od, ⟨I.obj, rfl, rfl, ho⟩, hl⟩

section
variable {prog : Program} {w : World} {A : Around} {E : Value → Shared → Prop} {s : Shared} {K : PySem.W.Frag} {x dx C f : Addr} {mA : Str → Option Value} {name : Str} {v : Value}





end

/-! ### the attributes as a list of pairs -/


section
variable {P : Program} {w : World} {H H' : Hp} {h h' : Heap} {a C dx : Addr} {fs fs' : List (Str × V)}
theorem ins_get (hok : HOk P w H h) (e : H a = some (.ins C dx fs)) : ∃ mA, ObjM h a dx C mA ∧ (∀ f, RelO (fs.lookup f) (mA f)) ∧ PySem.Within mA (fs.map (·.1)) ∧ fs.length ≤ 1000 ∧ H dx = some (.own a) := by
  obtain ⟨d, z, ne, ob, mA, n, r, q⟩ := (show ObjOk P w H h a (.ins C dx fs) from hok a _ e)
  exact ⟨mA, ⟨ob, n, ne⟩, r, q, z, d⟩
end

/-! ### what of the text a class must have -/
structure Cls (K : PySem.W.Frag) (C : Addr) : Prop where
  pg : PySem.W.plainGet K C Str.empty = true
  hd : PySem.W.hasDictIn K C = true
  po : PySem.W.plainOver K C = true
  sa : PySem.W.findIn K (.ref C) "__setattr__" = some (some (.builtin "object.__setattr__"))
theorem Cls.get {K : PySem.W.Frag} {C : Addr} (c : Cls K C) (f : Str) : PySem.W.plainGet K C f = true := c.pg

section
variable {X : Cx} {pins : List (Addr × Obj)} {σ : St} {H : Hp} {s : Shared} {a C dx : Addr} {fs : List (Str × V)} {f : Str} {v : V} {A : Around} {E : Value → Shared → Prop}






end

/-! ### readings and rules -/

section
variable {X : Cx} {o e value : Expr} {f : Str} {pos pos' tpos : Pos} {ta tv : TE}

end

/-! ### isinstance -/
section
variable {X : Cx} {pins : List (Addr × Obj)} {σ : St} {H : Hp} {s : Shared} {A : Around} {E : Value → Shared → Prop} {Q : Value → Shared → Prop} {c : Value} {b : Bool}
/-- the type of a value, as the fragment's deciders take it; for an instance its class -/
inductive TyOf (K : PySem.W.Frag) (H : Hp) : V → Value → Prop where
  | non : TyOf K H .non (.type "NoneType")
  | bl (x : Bool) : TyOf K H (.bl x) (.type "bool")
  | int (i : Int) : TyOf K H (.int i) (.type "int")
  | str (x : Str) : TyOf K H (.str x) (.type "str")
  | flt (x : UInt64) : TyOf K H (.flt x) (.type "float")
  | lst {a : Addr} {xs : List V} (e : H a = some (.lst xs)) : TyOf K H (.ref a) (.type "list")
  | frz {a : Addr} {o : Obj} {xs : List V} (e : H a = some (.frz o (.lst xs))) : TyOf K H (.ref a) (.type "list")
  | tup {a : Addr} {xs : List V} (e : H a = some (.tup xs)) : TyOf K H (.ref a) (.type "tuple")
  | dK {a : Addr} {kvs : List (Key × V)} (e : H a = some (.dK kvs)) : TyOf K H (.ref a) (.type "dict")
  | dT {a : Addr} {kvs : List (List Key × V)} (e : H a = some (.dT kvs)) : TyOf K H (.ref a) (.type "dict")
  | ins {a C dx : Addr} {fs : List (Str × V)} (e : H a = some (.ins C dx fs)) (cl : Cls K C) (ha : PySem.W.findIn K (.ref C) "__class__" = some (some (.builtin "object.__class__")))
      (hn : PySem.W.specialIn K (.builtin "object.__class__") "__get__" = some (some (.builtin "getset_descriptor.__get__"))) (htk : PySem.W.takesIn K (.builtin "object.__class__") = some true)
      (hm : PySem.W.mroIn K C (.type "object") = some true) : TyOf K H (.ref a) (.ref C)
end
end L2

namespace L2
open PySem PySem.Spec PyProof.Rows

/-! ### room -/
structure Room (k : Nat) (A : Around) : Prop where
  hd : A.handled = none
  dp : A.depth + 3 * k + 5 < recursionLimit
  un : A.units + 16 * k + 200 < cLine
theorem Room.mono {j k : Nat} {A : Around} (r : Room k A) (h : j ≤ k) : Room j A := ⟨r.hd, by have := r.dp; omega, by have := r.un; omega⟩
theorem Room.deeper {k : Nat} {A : Around} (r : Room (k + 1) A) (env : Env) : Room k (A.deeper env) :=
  ⟨r.hd, by have := r.dp; show A.depth + 1 + 3 * k + 5 < _; omega, by have := r.un; show A.units + 3 + 16 * k + 200 < _; omega⟩
theorem Room.depth {k : Nat} {A : Around} (r : Room k A) : A.depth < recursionLimit := by have := r.dp; omega
theorem Room.units {k : Nat} {A : Around} (r : Room k A) : A.units + 64 < cLine := by have := r.un; omega

/-! ### argument lists and displays -/
def tNil : TA := fun _ H Q => Q [] H
def tCons (ta : TE) (tr : TA) : TA := fun σ H Q => ta σ H fun x H1 => tr σ H1 fun xs H2 => Q (x :: xs) H2
section
variable {X : Cx} {e : Expr} {es : List Expr} {te : TE} {t : TA} {pos : Pos}
theorem pa_nil : PA X [] tNil := fun _ _ _ _ H Q I h => Calls.spliced_nil ⟨[], H, I, .nil, h⟩
theorem pa_cons (ha : PE X e te) (hr : PA X es t) (hs : starEach (e :: es) X.env = (false, eval e X.env) :: starEach es X.env := by rfl) : PA X (e :: es) (tCons te t) := by
  intro pos pins s σ H Q I h
  rw [hs]
  show wpAny _ _ (spliced ((false, eval e X.env) :: backTo pos (starEach es X.env))) _ _ s
  refine Calls.spliced_cons (thn (ha pins s σ H _ I h) fun u s1 ⟨x, H1, I1, r1, q1⟩ => ?_)
  exact thn (hr pos pins s1 σ H1 _ I1 q1) fun us s2 ⟨xs, H2, I2, r2, q2⟩ => ⟨x :: xs, H2, I2, .cons r1 r2, q2⟩

/-- a tuple, a list of written items -/
def tTup (t : TA) : TE := fun σ H Q => t σ H fun xs H1 => xs.length ≤ sizeLine ∧ ∀ p, H1 p = none → Q (.ref p) (upd H1 p (.tup xs))
def tLst (t : TA) : TE := fun σ H Q => t σ H fun xs H1 => xs.length ≤ sizeLine ∧ ∀ p, H1 p = none → Q (.ref p) (upd H1 p (.lst xs))
theorem pe_tup {x1} (h : PA X es t) : PE X (.Tuple es x1 pos) (tTup t) := by
  intro pins s σ H Q I hq
  refine wpAny_Tuple_spliced (thn (h pos pins s σ H _ I hq) fun us s1 ⟨xs, H1, I1, r, z, q⟩ => ⟨by rw [← r.length]; exact z, ?_⟩)
  have hf : H1 s1.heap.objs.size = none := I1.hok.fresh (Nat.le_refl _)
  refine ⟨.ref s1.heap.objs.size, upd H1 s1.heap.objs.size (.tup xs), I1.laid (t' := s1.toks) (fun b u e => Heap.get?_push_of_some _ e) (Nat.le_refl _) ?_, rfl, q _ hf⟩
  exact ⟨z, us, r, ⟨_, Heap.get?_push_size _ rfl, rfl, _, rfl⟩⟩
theorem pe_lst (h : PA X es t) : PE X (.List es pos) (tLst t) := by
  intro pins s σ H Q I hq
  refine wpAny_List_spliced (thn (h pos pins s σ H _ I hq) fun us s1 ⟨xs, H1, I1, r, z, q⟩ => ⟨by rw [← r.length]; exact z, ?_⟩)
  have hf : H1 s1.heap.objs.size = none := I1.hok.fresh (Nat.le_refl _)
  refine ⟨.ref s1.heap.objs.size, upd H1 s1.heap.objs.size (.lst xs), I1.laid (t' := s1.toks) (fun b u e => Heap.get?_push_of_some _ e) (Nat.le_refl _) ?_, rfl, q _ hf⟩
  exact ⟨z, us, 0, r, Heap.get?_push_size _ rfl⟩
end

/-! ### what a def promises -/
/-- a def's promise: the bound arguments in the parameters' order, the heap, the wanted end, the wanted exception -/
abbrev Sp := List V → Hp → VK → XK → Prop
/-- how an exception lies behind a call (file 08 gives it): the callers' frames, abstract heap and state ahead of the call, the wish, the exception, the state -/
abbrev CXT := List Env → Hp → Shared → XK → Value → Shared → Prop

/-- the state at a call -/
structure Env0 (P : Program) (w : World) (K : PySem.W.Frag) (mg : Str → Option Value) (base : Heap) (A : Around) (outer : List Env) (s : Shared) (H : Hp) : Prop where
  frames : A.frames = some outer
  mod : Mod K mg base
  bs : ∀ b o, base.get? b = some o → s.heap.get? b = some o ∧ H b = none
  bsz : base.objs.size ≤ s.heap.objs.size
  funs : s.heap.FunFrames base outer
  frf : ∀ b ∈ frs outer, H b = none
  hok : HOk P w H s.heap
  bare : AllBare s.gens
/-- a call's end -/
def CE (outer : List Env) (P : Program) (w : World) (H : Hp) (s : Shared) (Q : VK) (u : Value) (s' : Shared) : Prop :=
  ∃ v H', s'.os = s.os ∧ AllBare s'.gens ∧ Un (frs outer) [] H H' s.heap s'.heap ∧ HOk P w H' s'.heap ∧ RelV v u ∧ Q v H'
def CR (CX : CXT) (outer : List Env) (P : Program) (w : World) (H : Hp) (s : Shared) (Q : VK) (E : XK) (r : Result) (s' : Shared) : Prop :=
  match r with
  | .ok (.ret u) => CE outer P w H s Q u s'
  | .ok _ => False
  | .error e => CX outer H s E e s'
structure FnOk (P : Program) (w : World) (K : PySem.W.Frag) (mg : Str → Option Value) (base : Heap) (CX : CXT) (k : Nat) (f : Addr) (fd : FuncData) (ps : List Str) (sp : Sp) : Prop where
  len : ∀ vs H Q E, sp vs H Q E → vs.length = ps.length
  run : ∀ (A : Around) (outer : List Env) (s : Shared) (H : Hp) (args : Args) (us : List Value) (vs : List V) (Q : VK) (E : XK), Room k A → Env0 P w K mg base A outer s H → BindsTo s fd args (ps.zip us) → Vals vs us → sp vs H Q E →
    codeAny (model P w) A (.call (.ref f) args) (CR CX outer P w H s Q E) s


section
variable {X : Cx} {pins : List (Addr × Obj)} {σ : St} {H : Hp} {s s' : Shared}
/-- from a body: what a callee wants -/
theorem Inv.env0 (I : Inv X pins σ H s) : Env0 X.prog X.w X.K X.mg X.base X.A X.stack s H :=
  ⟨I.ok.frames, I.ok.mod, I.bs, Nat.le_trans I.ok.bsz I.sz, I.stack, I.stkFree, I.hok, I.bare⟩
/-- behind a call -/
theorem Inv.after {Q : VK} {u : Value} (I : Inv X pins σ H s) (h : CE X.stack X.prog X.w H s Q u s') : EP X pins σ Q u s' := by
  obtain ⟨v, H', os, bare, un, hok, r, q⟩ := h
  obtain ⟨hh, g, d, t, os'⟩ := s'
  obtain rfl : os' = s.os := os
  exact ⟨v, H', I.call (h' := hh) (g' := g) (d' := d) (t' := t) (ch := []) un hok bare (fun b z => absurd z (by simp)), r, q⟩
end

/-! ### calls -/
/-- f(..): the written arguments, then the defaults dvs; E: what is wanted of an exception -/
def tCall (sp : Sp) (dvs : List V) (E : XK) (t : TA) : TE := fun σ H Q => t σ H fun vs H1 => sp (vs ++ dvs) H1 Q E

/-- how the parameters are bound: us the positional arguments, kw the keywords' values by name, ds the defaults that fill up -/
def Binds (K : PySem.W.Frag) (fd : FuncData) (ps : List Str) (ds : List Value) : Prop :=
  ∀ (s : Shared) (us : List Value), K.In s.heap → (us ++ ds).length = ps.length → BindsTo s fd ⟨us, []⟩ (ps.zip (us ++ ds))
/-- every parameter is given -/
theorem Binds.all {K : PySem.W.Frag} {fd : FuncData} {ps : List Str} (h : ∀ us : List Value, us.length = ps.length → bindArgs fd ⟨us, []⟩ = pure (ps.zip us)) : Binds K fd ps [] := fun s us _ hl => by
  rw [List.append_nil] at hl ⊢
  exact .of_eq (h us hl)

/-- an exception of a callee reaches what this body wants of exceptions -/
def Passes (CX : CXT) (X : Cx) (E : XK) : Prop := ∀ (pins : List (Addr × Obj)) (σ : St) (H : Hp) (s : Shared) (e : Value) (s' : Shared), Inv X pins σ H s → CX X.stack H s E e s' → X.xe e s'

section
variable {X : Cx} {CX : CXT} {k : Nat} {f C : Addr} {fd : FuncData} {ps : List Str} {sp : Sp} {dvs : List V} {ds : List Value} {E : XK} {x m : Str} {p pos apos : Pos} {e o : Expr} {es : List Expr} {ta : TE} {t : TA}

/-- the callee runs -/
theorem run_fn {pins : List (Addr × Obj)} {σ : St} {H : Hp} {s : Shared} {Q : VK} {us : List Value} {vs : List V} (F : FnOk X.prog X.w X.K X.mg X.base CX k f fd ps sp) (hr : Room k X.A) (hb : Binds X.K fd ps ds) (hd : Vals dvs ds) (hx : Passes CX X E)
    (I : Inv X pins σ H s) (r : Vals vs us) (h : sp (vs ++ dvs) H Q E) : wpAny (model X.prog X.w) X.A (call (.ref f) us) (EP X pins σ Q) X.xe s := by
  have r2 : Vals (vs ++ dvs) (us ++ ds) := r.append hd
  have hl : (us ++ ds).length = ps.length := by rw [← r2.length]; exact F.len _ _ _ _ h
  refine wpAny_call (codeAny_mono (F.run X.A X.stack s H ⟨us, []⟩ (us ++ ds) (vs ++ dvs) Q E hr I.env0 (hb s us I.kIn hl) r2 h) fun r s' hq => ?_)
  cases r with
  | error e => exact hx pins σ H s e s' I hq
  | ok fl =>
    cases fl with
    | ret u => exact I.after hq
    | next => exact False.elim hq
    | brk => exact False.elim hq
    | cont => exact False.elim hq

theorem pe_call (F : FnOk X.prog X.w X.K X.mg X.base CX k f fd ps sp) (hr : Room k X.A) (hg : Gl X x) (hm : X.mg x = some (.ref f)) (hk : PySem.W.keepIn X.K (.ref f) = true) (hb : Binds X.K fd ps ds) (hd : Vals dvs ds) (hx : Passes CX X E)
    (ha : PA X (e :: es) t) (hdb : (x == ("__debug__" : Str)) = false := by decide) (he : starEach (e :: es) X.env = (false, eval e X.env) :: starEach es X.env := by rfl) (hpl : (backTo pos (starEach es X.env)).any (·.1) = false := by rfl) :
    PE X (.Call (.Name x p) (e :: es) [] pos) (tCall sp dvs E t) := by
  intro pins s σ H Q I h
  refine wpAny_Call_Name_kw (ld_glob I hg hm ?_ hdb)
  refine PySem.W.callWith_K (h₀ := X.base) I.ok.mod.kin hk (thn (ha pos pins s σ H _ I h) fun us s1 ⟨vs, H1, I1, r, q⟩ => ⟨I1.kIn, ?_⟩) he hpl
  exact run_fn F hr hb hd hx I1 r q



end

/-! ### keywords -/
section
variable {X : Cx} {CX : CXT} {k : Nat} {f C : Addr} {fd : FuncData} {ps ks : List Str} {sp : Sp} {E : XK} {x m : Str} {p pos apos kpos : Pos} {e o : Expr} {es : List Expr} {kws : List Keyword} {te ta : TE} {t tk : TA} {nm : Option Str}

variable {g : List Value → List Value → List Value} {gV : List V → List V → List V}
end

/-! ### a def's body keeps its promise -/
/-- names: the parameters first -/
structure FnScope (N P : List Str) (sc : Scope) : Prop where
  kind : sc.kind = .function
  co : sc.isCoroutine = false
  gen : sc.isGenerator = false
  nd : N.Nodup
  pre : N.take P.length = P
  par : ∀ x ∈ P, sc.names.lookup x = some .local ∨ sc.names.lookup x = some .cell
  nofree : ∀ y ∈ sc.names, y.2 ≠ .free

theorem bindL_out {kindOf : Str → Option NameKind} {x : Str} : ∀ {binds : List (Str × Value)} {m : Str → Option Value}, (∀ v, (x, v) ∉ binds) → bindL kindOf binds m x = m x
  | [], _, _ => rfl
  | (n, v) :: r, m, h => by
    unfold bindL
    rw [bindL_out fun w hw => h w (List.mem_cons_of_mem _ hw)]
    split
    · have : x ≠ n := by rintro rfl; exact h v List.mem_cons_self
      simp [this]
    · rfl
theorem bindC_out {kindOf : Str → Option NameKind} {x : Str} : ∀ {binds : List (Str × Value)} {m : Str → Option Value}, (∀ v, (x, v) ∉ binds) → bindC kindOf binds m x = m x
  | [], _, _ => rfl
  | (n, v) :: r, m, h => by
    unfold bindC
    rw [bindC_out fun w hw => h w (List.mem_cons_of_mem _ hw)]
    split
    · rfl
    · have : x ≠ n := by rintro rfl; exact h v List.mem_cons_self
      simp [this]
theorem bindL_get {kindOf : Str → Option NameKind} {x : Str} {v : Value} : ∀ {P : List Str} {vs : List Value} {i : Nat} {m : Str → Option Value}, P.Nodup → P[i]? = some x → vs[i]? = some v → kindOf x = some .local →
    bindL kindOf (P.zip vs) m x = some v
  | [], _, _, _, _, h, _, _ => by simp at h
  | _ :: _, [], _, _, _, _, h, _ => by simp at h
  | p :: P, w :: vs, 0, m, nd, h1, h2, hk => by
    simp at h1 h2; subst h1; subst h2
    show bindL kindOf ((p, w) :: P.zip vs) m p = _
    unfold bindL
    rw [bindL_out fun v hv => (List.nodup_cons.mp nd).1 (List.of_mem_zip hv).1, if_pos hk]
    simp
  | p :: P, w :: vs, i + 1, m, nd, h1, h2, hk => by
    show bindL kindOf ((p, w) :: P.zip vs) m x = _
    unfold bindL
    exact bindL_get (i := i) (List.nodup_cons.mp nd).2 (by simpa using h1) (by simpa using h2) hk
theorem bindC_get {kindOf : Str → Option NameKind} {x : Str} {v : Value} : ∀ {P : List Str} {vs : List Value} {i : Nat} {m : Str → Option Value}, P.Nodup → P[i]? = some x → vs[i]? = some v → kindOf x ≠ some .local →
    bindC kindOf (P.zip vs) m x = some v
  | [], _, _, _, _, h, _, _ => by simp at h
  | _ :: _, [], _, _, _, _, h, _ => by simp at h
  | p :: P, w :: vs, 0, m, nd, h1, h2, hk => by
    simp at h1 h2; subst h1; subst h2
    show bindC kindOf ((p, w) :: P.zip vs) m p = _
    unfold bindC
    rw [bindC_out fun v hv => (List.nodup_cons.mp nd).1 (List.of_mem_zip hv).1, if_neg hk]
    simp
  | p :: P, w :: vs, i + 1, m, nd, h1, h2, hk => by
    show bindC kindOf ((p, w) :: P.zip vs) m x = _
    unfold bindC
    exact bindC_get (i := i) (List.nodup_cons.mp nd).2 (by simpa using h1) (by simpa using h2) hk

/-- the names' values at the entry -/
def start (N : List Str) (vs : List V) : St := vs.map some ++ List.replicate (N.length - vs.length) none

/-- the context of a def's body, at its entry; an exception leaves the frame, then lies as CX says -/
def cxOf (CX : CXT) (P : Program) (w : World) (K : PySem.W.Frag) (mg : Str → Option Value) (base : Heap) (N : List Str) (qual : Str) (scope : Scope) (f : Addr) (cd : Value) (A : Around) (outer : List Env) (s : Shared) (H : Hp) (E : XK) : Cx where
  prog := P
  w := w
  K := K
  mg := mg
  base := base
  A := A.deeper (envOfC qual scope s.heap.objs.size f cd)
  N := N
  s₀ := s
  H₀ := H
  env := envOfC qual scope s.heap.objs.size f cd
  outer := outer
  stack := envOfC qual scope s.heap.objs.size f cd :: outer
  ex := []
  calm := true
  fn := fun _ => true
  pn := []
  xe := fun e s' => wpAny (model P w) (A.deeper (envOfC qual scope s.heap.objs.size f cd)) (leaving (envOfC qual scope s.heap.objs.size f cd) e) (fun _ s'' => CX outer H s E e s'') (fun e' s'' => CX outer H s E e' s'') s'

theorem cell_has {sc : Scope} {n : Nat} {x : Str} (h : sc.names.lookup x = some .cell) : ∃ c, (cellsFrom n sc.names []).lookup x = some c := by
  have q := PySem.W.cellsFrom_some sc.names n [] (.inl h)
  exact Option.isSome_iff_exists.mp q

theorem inv_start {CX : CXT} {P : Program} {w : World} {K : PySem.W.Frag} {mg : Str → Option Value} {base : Heap} {N ps : List Str} {qual : Str} {scope : Scope} {f : Addr} {cd : Value} {A : Around} {outer : List Env} {s s1 : Shared} {H : Hp} {E : XK} {us : List Value} {vs : List V}
    (S : FnScope N ps scope) (hd : A.handled = none) (e0 : Env0 P w K mg base A outer s H) (hl : vs.length = ps.length) (r : Vals vs us)
    (x : InCallC s s.heap.objs.size (bindL (envOfC qual scope s.heap.objs.size f cd).kindOf (ps.zip us) fun _ => none) (cellsFrom (s.heap.objs.size + 1) scope.names []) (bindC (envOfC qual scope s.heap.objs.size f cd).kindOf (ps.zip us) fun _ => none) s1) :
    Inv (cxOf CX P w K mg base N qual scope f cd A outer s H E) [] (start N vs) H s1 := by
  have hpl : ps.length ≤ N.length := by have := congrArg List.length S.pre; rw [List.length_take] at this; omega
  obtain ⟨h1, tk, rfl, hk⟩ := x.done
  have noA : ∀ b : Addr, b ∉ (cxOf CX P w K mg base N qual scope f cd A outer s H E).ex := fun b z => absurd (show b ∈ ([] : List Addr) from z) (by simp)
  refine ⟨⟨e0.mod, S.kind, rfl, rfl, Nat.le_refl _, fun y z c h1 h2 => ?_, fun y hy => ?_, fun y c _ h => ?_, fun _ => hd, Around.frames_deeper e0.frames, .inr ⟨rfl, rfl⟩, fun b z => absurd z (noA b), e0.bs, e0.bsz, fun b _ _ => noA b, fun b z => absurd z (noA b), e0.funs, e0.frf⟩,
    rfl, e0.bare, Un.kept hk, ⟨_, x.toInCall.ns, fun i y v h1 h2 h3 => ?_⟩, fun y c h => ⟨_, x.cell y c h⟩, e0.hok.fresh (Nat.le_refl _), fun y c h => ?_, fun p hp => absurd (show p ∈ ([] : List (Addr × Obj)) from hp) (by simp), e0.hok.kept hk, ?_⟩
  · exact name_of_addr x.apart (PySem.mem_of_lookup h1) (PySem.mem_of_lookup h2)
  · have hy : scope.names.lookup y = some .cell ∨ scope.names.lookup y = some .free := hy
    rcases hy with hy | hy
    · exact cell_has hy
    · exact absurd rfl (S.nofree _ (PySem.mem_of_lookup hy))
  · exact Nat.le_of_lt (x.above y c (PySem.mem_of_lookup h))
  · have hi : i < vs.length := by
      unfold start at h2
      by_cases hi : i < vs.length
      · exact hi
      · rw [List.getElem?_append_right (by simpa using hi)] at h2
        rw [List.getElem?_replicate] at h2
        split at h2 <;> cases h2
    have ha : vs[i]? = some v := by
      unfold start at h2
      rw [List.getElem?_append_left (by simpa using hi), List.getElem?_map] at h2
      cases e : vs[i]? with
      | none => rw [e] at h2; cases h2
      | some a => rw [e] at h2; cases h2; rfl
    obtain ⟨u, hu, rv⟩ := r.get ha
    have hp : ps[i]? = some y := by
      rw [← S.pre, List.getElem?_take_of_lt (by omega)]; exact h1
    have ndP : ps.Nodup := by rw [← S.pre]; exact S.nd.sublist (List.take_sublist _ _)
    refine ⟨u, rv, ?_⟩
    rcases S.par y (List.mem_of_getElem? hp) with k | k
    · exact .inl ⟨k, bindL_get ndP hp hu k⟩
    · obtain ⟨c, e⟩ := cell_has (n := s.heap.objs.size + 1) k
      refine .inr ⟨.inl k, c, e, ?_⟩
      have q := x.cell y c e
      rw [bindC_get ndP hp hu (by show scope.names.lookup y ≠ _; rw [k]; decide)] at q
      exact q
  · exact e0.hok.fresh (Nat.le_of_lt (x.above y c (PySem.mem_of_lookup h)))
  · unfold start
    show _ = N.length
    rw [List.length_append, List.length_map, List.length_replicate]
    omega

/-- THE RULE: a def (or a method) of the text, by its body. The body's reading t is chosen for each entry; it is run at the parameters' values -/
theorem fn_of {CX : CXT} {P : Program} {w : World} {K : PySem.W.Frag} {mg : Str → Option Value} {base : Heap} {k : Nat} {f : Addr} {name qual : Str} {params : Arguments} {body : List Stmt} {scope : Scope} {dV kV doc pm cdv ct oc : Value} {an od : Option Addr}
    {osl : Array (Option Value)} {N ps : List Str} {sp : Sp} (lk : K.lookup f = some ⟨oc, od, .func (PySem.W.fnOf name qual params body scope dV kV doc pm an cdv ct), osl⟩) (hcd : PySem.W.codeIn K cdv qual = true) (S : FnScope N ps scope)
    (len : ∀ vs H Q E, sp vs H Q E → vs.length = ps.length)
    (hbody : ∀ (A : Around) (outer : List Env) (s : Shared) (H : Hp) (vs : List V) (Q : VK) (E : XK), Room k (A.deeper (envOfC qual scope s.heap.objs.size f cdv)) → sp vs H Q E →
      ∃ t, PSs (cxOf CX P w K mg base N qual scope f cdv A outer s H E) body t ∧ t { nx := fun _ H' => Q .non H', rt := Q } (start N vs) H) :
    FnOk P w K mg base CX (k + 1) f (PySem.W.fnOf name qual params body scope dV kV doc pm an cdv ct) ps sp := by
  refine ⟨len, fun A outer s H args us vs Q E hr e0 hb r hsp => ?_⟩
  have hl := len _ _ _ _ hsp
  have KX : K.In s.heap := e0.mod.kin.keeps fun b o e => (e0.bs b o e).1
  have lim : s.heap.NoLimit := e0.mod.nolimit.keeps fun b o e => (e0.bs b o e).1
  have hkind : ∀ y ∈ ps.zip us, scope.names.lookup y.1 = some .local ∨ (scope.names.lookup y.1 = some .cell ∧ ((cellsFrom (s.heap.objs.size + 1) scope.names []).lookup y.1).isSome = true) := fun ⟨n, v⟩ hy => by
    rcases S.par n (List.of_mem_zip hy).1 with q | q
    · exact .inl q
    · exact .inr ⟨q, PySem.W.cellsFrom_some _ _ _ (.inl q)⟩
  refine codeAny_call_function hr.depth (KX _ _ lk) rfl S.co S.gen rfl (PySem.W.codeRec_of KX hcd) (hb _ _ _ _ ?_)
  refine wpAny_newFunctionEnv_cells S.kind hkind fun env he s1 x => ?_
  subst he
  refine ⟨lim.keeps x.toInCall.keep, codeAny_func ?_⟩
  obtain ⟨t, ht, hq⟩ := hbody A outer s H vs Q E (hr.deeper _) hsp
  have I : Inv (cxOf CX P w K mg base N qual scope f cdv A outer s H E) [] (start N vs) H s1 := inv_start S hr.hd e0 hl r x
  refine wpAny_mono (ht [] s1 (start N vs) H _ I hq) (fun fl s' hs => ?_) fun e s' hs => hs
  have fin : ∀ {σ' : St} {H' : Hp} {v : V} {u : Value}, Inv (cxOf CX P w K mg base N qual scope f cdv A outer s H E) [] σ' H' s' → RelV v u → Q v H' → CE outer P w H s Q u s' :=
    fun {σ' H' v u} J rv q => ⟨v, H', J.os, J.bare, J.base, J.hok, rv, q⟩
  cases fl with
  | ret u =>
    obtain ⟨v, σ', H', J, rv, q⟩ := hs
    exact fin J rv q
  | next =>
    obtain ⟨σ', H', J, q⟩ := hs
    exact fin (v := V.non) (u := Value.none) J rfl q
  | brk =>
    obtain ⟨_, _, _, q⟩ := hs
    exact False.elim q
  | cont =>
    obtain ⟨_, _, _, q⟩ := hs
    exact False.elim q
end L2

namespace L2
open PySem PySem.Spec PyProof.Rows
section
variable {X : Cx} {x : Str} {p pos : Pos} {e : Expr} {es : List Expr} {t : TA} {id T : String} {r : List V → Hp → VK → Prop}

def tCB (r : List V → Hp → VK → Prop) (t : TA) : TE := fun σ H Q => t σ H fun vs H1 => r vs H1 Q
/-- f(e, ..), f a built-in function -/
theorem pe_callB (hc : CallR X (.builtin id) r) (hg : Gl X x) (hm : X.mg x = none) (hv : bootBuiltins x = some (.builtin id)) (ha : PA X (e :: es) t) (hn : x ≠ "__name__" := by decide) (hdb : (x == ("__debug__" : Str)) = false := by decide)
    (he : starEach (e :: es) X.env = (false, eval e X.env) :: starEach es X.env := by rfl) (hpl : (backTo pos (starEach es X.env)).any (·.1) = false := by rfl) : PE X (.Call (.Name x p) (e :: es) [] pos) (tCB r t) := by
  intro pins s σ H Q I h
  refine wpAny_Call_Name_kw (ld_blt I hg hm hv ?_ hn hdb)
  exact PyProof.Rows.callWith_builtin1 (thn (ha pos pins s σ H _ I h) fun us s1 ⟨vs, H1, I1, r1, q1⟩ => hc pins s1 σ H1 vs us Q I1 r1 q1) he hpl
/-- T(e, ..), T a built-in type -/
theorem pe_callTy (hc : CallR X (.type T) r) (hg : Gl X x) (hm : X.mg x = none) (hv : bootBuiltins x = some (.type T)) (ha : PA X (e :: es) t) (hn : x ≠ "__name__" := by decide) (hdb : (x == ("__debug__" : Str)) = false := by decide)
    (he : starEach (e :: es) X.env = (false, eval e X.env) :: starEach es X.env := by rfl) (hpl : (backTo pos (starEach es X.env)).any (·.1) = false := by rfl) : PE X (.Call (.Name x p) (e :: es) [] pos) (tCB r t) := by
  intro pins s σ H Q I h
  refine wpAny_Call_Name_kw (ld_blt I hg hm hv ?_ hn hdb)
  exact PyProof.Rows.callWith_type1 (thn (ha pos pins s σ H _ I h) fun us s1 ⟨vs, H1, I1, r1, q1⟩ => hc pins s1 σ H1 vs us Q I1 r1 q1) he hpl
end
end L2

namespace HT
open PySem PyProof.Rows



section
open PySem.SeqAt
open PySem.AutoSeq1 (wpAny_loadPart')
open PySem.MeetsSeq PySem.MeetsSeq2 PySem.MeetsSeq3

end

section
variable {prog : Program} {w : World} {A : Around} {E : Value → Shared → Prop} {s : Shared}



/-! ### t[a:b], not the whole -/
/-- a slice's bound as a place among n (d where it is left out) -/
def sIx (n d : Nat) : Option Int → Nat
  | none => d
  | some v => if v < 0 then (v + (n : Int)).toNat else min v.toNat n
theorem sIx_none (n d : Nat) : sIx n d none = d := rfl
theorem sIx_nat (n d k : Nat) : sIx n d (some (k : Int)) = min k n := by
  show (if (k : Int) < 0 then ((k : Int) + (n : Int)).toNat else min (k : Int).toNat n) = min k n
  rw [if_neg (by omega), Int.toNat_natCast]

end
end HT

namespace L2
open PySem PySem.Spec PyProof.Rows

/-! ### the parts of a slice -/
abbrev TO := St → Hp → (Option Int → Hp → Prop) → Prop
/-- a slice's part (left out, or an int) -/
def PO (X : Cx) (e : Option Expr) (t : TO) : Prop :=
  ∀ (pins : List (Addr × Obj)) (s : Shared) (σ : St) (H : Hp) (Q : Option Int → Hp → Prop), Inv X pins σ H s → t σ H Q →
    wpAny (model X.prog X.w) X.A (evalPart e X.env) (fun u s' => ∃ o H', Inv X pins σ H' s' ∧ IsPart u o ∧ Q o H') X.xe s
def tNoPart : TO := fun _ H Q => Q none H
def tPart (t : TE) : TO := fun σ H Q => t σ H fun x H1 => ∃ i, x = .int i ∧ Q (some i) H1


section
variable {X : Cx} {e : Expr} {te : TE} {lo hi : Option Expr} {tl th : TO} {pos p2 : Pos}

theorem po_none : PO X none tNoPart := by
  intro pins s σ H Q I h
  rw [evalPart_none]
  exact wpAny_pure ⟨none, H, I, .none, h⟩
theorem po_some (h : PE X e te) : PO X (some e) (tPart te) := by
  intro pins s σ H Q I hw
  rw [evalPart_some]
  refine thn (h pins s σ H _ I hw) fun u s1 ⟨x, H1, I1, r1, q1⟩ => ?_
  obtain ⟨i, rfl, q⟩ := q1
  obtain ⟨t, rfl⟩ := r1
  exact ⟨some i, H1, I1, .int i t, q⟩

/-- what a slice of a value is, by values: the slice object stands at sl -/
def SlR (X : Cx) (r : V → Option Int → Option Int → Hp → VK → Prop) : Prop :=
  ∀ (pins : List (Addr × Obj)) (s : Shared) (σ : St) (H : Hp) (x : V) (v vl vu : Value) (lo hi : Option Int) (sl : Addr) (Q : VK), Inv X pins σ H s → RelV x v → s.heap.IsSliceOf sl vl vu .none → IsPart vl lo → IsPart vu hi → r x lo hi H Q →
    ∃ T id, typeLookup (.type T) "__getitem__" = pure (some (.builtin id)) ∧ s.TypeIs v T ∧ wpAny (model X.prog X.w) X.A (getItem v (.ref sl)) (EP X pins σ Q) X.xe s
def tSl (r : V → Option Int → Option Int → Hp → VK → Prop) (te : TE) (tl th : TO) : TE := fun σ H Q => te σ H fun x H1 => tl σ H1 fun l H2 => th σ H2 fun u H3 => r x l u H3 Q
/-- a[lo:hi], any a -/
theorem pe_slice {r : V → Option Int → Option Int → Hp → VK → Prop} (hr : SlR X r) (he : PE X e te) (hl : PO X lo tl) (hu : PO X hi th) : PE X (.Subscript e (.Slice lo hi none p2) pos) (tSl r te tl th) := by
  intro pins s σ H Q I h
  refine Subscript_ (thn (he pins s σ H _ I h) fun v s1 ⟨x, H1, I1, r1, q1⟩ => ?_)
  refine wpAny_Slice (thn (hl pins s1 σ H1 _ I1 q1) fun vl s2 ⟨l, H2, I2, pl, q2⟩ => thn (hu pins s2 σ H2 _ I2 q2) fun vu s3 ⟨u, H3, I3, pu, q3⟩ => ?_)
  rw [evalPart_none]
  refine wpAny_pure ?_
  have I4 : Inv X pins σ H3 { s3 with heap := s3.heap.push { cls := .type "slice", data := .fields #[vl, vu, .none] } } := I3.kept (t' := s3.toks) fun b ob q => Heap.get?_push_of_some _ q
  obtain ⟨T, id, hT, ht, hg⟩ := hr pins { s3 with heap := s3.heap.push { cls := .type "slice", data := .fields #[vl, vu, .none] } } σ H3 x v vl vu l u s3.heap.objs.size Q I4 r1 (Heap.IsSliceOf.new ..) pl pu q3
  show wpAny (model X.prog X.w) X.A (subscriptTail e (.Slice lo hi none p2) v (.ref s3.heap.objs.size)) (EP X pins σ Q) X.xe { s3 with heap := s3.heap.push { cls := .type "slice", data := .fields #[vl, vu, .none] } }
  exact tail_any (ops := [.ref s3.heap.objs.size, v]) ht hT hg (by with_unfolding_all rfl)

/-- the items of xs[lo:hi] -/
def cutV (xs : List V) (lo hi : Option Int) : List V := (xs.drop (HT.sIx xs.length 0 lo)).take (HT.sIx xs.length xs.length hi - HT.sIx xs.length 0 lo)
theorem cutV_length (xs : List V) (lo hi : Option Int) : (cutV xs lo hi).length ≤ xs.length := by
  unfold cutV
  rw [List.length_take, List.length_drop]
  omega

/-! ### t < u, t + u -/
end
end L2

namespace L2
open PySem PySem.Spec PyProof.Rows

/-! ### places -/
/-- the place that an index of any sign means -/
def ixN (n : Nat) (i : Int) : Option Nat := if 0 ≤ i then (if i < n then some i.toNat else none) else if -(n : Int) ≤ i then some (i + n).toNat else none
def atI {α : Type} (xs : List α) (i : Int) : Option α := (ixN xs.length i).bind fun j => xs[j]?
theorem ixN_seq {n : Nat} {i : Int} {j : Nat} (h : ixN n i = some j) : seqIndex? i n = some j ∧ j < n ∧ -(n : Int) ≤ i ∧ i < n := by
  unfold ixN at h
  by_cases h0 : 0 ≤ i
  · rw [if_pos h0] at h
    by_cases h1 : i < n
    · rw [if_pos h1] at h
      have e : i.toNat = j := Option.some.inj h
      exact ⟨by rw [seqIndex_of h0 h1, e], by omega, by omega, h1⟩
    · rw [if_neg h1] at h; cases h
  · rw [if_neg h0] at h
    by_cases h1 : -(n : Int) ≤ i
    · rw [if_pos h1] at h
      have e : (i + n).toNat = j := Option.some.inj h
      exact ⟨by rw [seqIndex_neg (by omega) h1, e], by omega, h1, by omega⟩
    · rw [if_neg h1] at h; cases h
theorem atI_get {α : Type} {xs : List α} {i : Int} {v : α} (h : atI xs i = some v) : ∃ j, seqIndex? i xs.length = some j ∧ xs[j]? = some v ∧ j < xs.length ∧ -(xs.length : Int) ≤ i ∧ i < xs.length := by
  unfold atI at h
  cases e : ixN xs.length i with
  | none => rw [e] at h; cases h
  | some j =>
    rw [e] at h
    obtain ⟨h1, h2, h3, h4⟩ := ixN_seq e
    exact ⟨j, h1, h, h2, h3, h4⟩
theorem atI_nat {α : Type} {xs : List α} {j : Nat} {v : α} (h : xs[j]? = some v) : atI xs (j : Int) = some v := by
  have hj : j < xs.length := (List.getElem?_eq_some_iff.mp h).1
  have e : ixN xs.length (j : Int) = some j := by
    unfold ixN
    rw [if_pos (by omega), if_pos (by omega)]; simp
  unfold atI; rw [e]; exact h

/-! ### what may be subscripted -/
/-- what stands as an index of a plain subscript -/
def PlainIx (b : Expr) : Prop := ∀ o i, subscripted b false o i = operate [o, i] (getItem o i)
/-- a subscript by values -/
def IxR (X : Cx) (r : R2) : Prop :=
  ∀ (value slice : Expr) (pins : List (Addr × Obj)) (s : Shared) (σ : St) (H : Hp) (x y : V) (v u : Value) (Q : VK), Inv X pins σ H s → RelV x v → RelV y u → r x y H Q →
    subscripted slice false v u = operate [v, u] (getItem v u) → wpAny (model X.prog X.w) X.A (subscriptTail value slice v u) (EP X pins σ Q) X.xe s
/-- a call of a builtin's method by values: the receiver, the arguments -/
def MtR (X : Cx) (id : String) (r : V → List V → Hp → VK → Prop) : Prop :=
  ∀ (pins : List (Addr × Obj)) (s : Shared) (σ : St) (H : Hp) (x : V) (xs : List V) (v : Value) (us : List Value) (Q : VK), Inv X pins σ H s → RelV x v → Vals xs us → r x xs H Q →
    wpAny (model X.prog X.w) X.A (call (.builtin id) (v :: us)) (EP X pins σ Q) X.xe s
section
variable {X : Cx} {a b : Expr} {ta tb : TE} {pos : Pos}
/-- a[b] -/
theorem pe_ix {r : R2} (hr : IxR X r) (ha : PE X a ta) (hb : PE X b tb) (hs : PlainIx b) : PE X (.Subscript a b pos) (tOp r ta tb) := by
  intro pins s σ H Q I h
  exact Subscript_ (binT ha hb I h fun v u s2 x y H2 I2 rx ry q => hr a b pins s2 σ H2 x y v u Q I2 rx ry q (hs _ _))

def rIxL (K : PySem.W.Frag) : R2 := fun x y H Q => ∃ p xs i v, x = .ref p ∧ y = .int i ∧ SqL K H p xs ∧ atI xs i = some v ∧ Q v H
def rIxT (K : PySem.W.Frag) : R2 := fun x y H Q => ∃ p xs i v, x = .ref p ∧ y = .int i ∧ SqT K H p xs ∧ atI xs i = some v ∧ Q v H
def rIxS : R2 := fun x y H Q => ∃ z i c, x = .str z ∧ y = .int i ∧ z.length ≤ sizeLine ∧ atI z.cps.toList i = some c ∧ Q (.str ⟨#[c]⟩) H
theorem ix_list : IxR X (rIxL X.K) := by
  intro value slice pins s σ H x y v u Q I rx ry h hs
  obtain ⟨p, xs, i, z, rfl, rfl, hq, he, q⟩ := h
  cases rx
  obtain ⟨t, rfl⟩ := ry
  obtain ⟨its, r, pl, hz⟩ := I.list hq
  obtain ⟨j, h1, h2, h3, h4, h5⟩ := atI_get he
  obtain ⟨w, ew, rw'⟩ := r.get h2
  have hl := r.length
  have hn := line63
  have fin : EP X pins σ Q w s := ⟨z, H, I, rw', q⟩
  by_cases h0 : 0 ≤ i
  · have hj : i.toNat = j := by
      rw [seqIndex_of h0 h5] at h1
      exact Option.some.inj h1
    exact item_listR pl.isList h0 (by omega) (by rw [hj]; simpa using ew) fin hs
  · have hj : (i + (its.toArray.size : Int)).toNat = j := by
      rw [seqIndex_neg (by omega) h4] at h1
      rw [List.size_toArray, ← hl]
      exact Option.some.inj h1
    exact subscriptTail_builtinR (x := w) pl.isList.typeIs slot_list_getitem.lookup
      (wpAny_getItem_list_neg (Q := fun r s' => r = w ∧ EP X pins σ Q r s') pl.isList (by omega) (by rw [List.size_toArray] <;> omega) (by omega) (by rw [hj]; simpa using ew) ⟨rfl, fin⟩) hs
theorem ix_tup : IxR X (rIxT X.K) := by
  intro value slice pins s σ H x y v u Q I rx ry h hs
  obtain ⟨p, xs, i, z, rfl, rfl, hq, he, q⟩ := h
  cases rx
  obtain ⟨t, rfl⟩ := ry
  obtain ⟨its, r, pl, hz⟩ := I.tuple hq
  obtain ⟨j, h1, h2, h3, h4, h5⟩ := atI_get he
  obtain ⟨w, ew, rw'⟩ := r.get h2
  have hl := r.length
  have hn := line63
  have fin : EP X pins σ Q w s := ⟨z, H, I, rw', q⟩
  exact subscriptTail_builtinR (x := w) pl.typeIs slot_tuple_getitem.lookup
    (getItem_tuple (j := j) (Q := fun r s' => r = w ∧ EP X pins σ Q r s') pl (by omega) (by omega) (by rw [List.size_toArray, ← hl]; exact h1) (by simpa using ew) ⟨rfl, fin⟩) hs
theorem ix_str : IxR X rIxS := by
  intro value slice pins s σ H x y v u Q I rx ry h hs
  obtain ⟨z, i, c, rfl, rfl, hz, he, q⟩ := h
  obtain ⟨t, rfl⟩ := rx
  obtain ⟨t', rfl⟩ := ry
  obtain ⟨j, h1, h2, h3, h4, h5⟩ := atI_get he
  have hl : z.cps.toList.length = z.length := by simp [Str.length]
  rw [hl] at h1 h4 h5
  have hn := line63
  exact tail_any (typeIs_str s z t) slot_str_getitem.lookup (getItem_str (c := c) (by
    have e1 : decide (i < -(2 ^ 63 : Int)) = false := decide_eq_false (by omega)
    have e2 : decide (i ≥ 2 ^ 63) = false := decide_eq_false (by omega)
    rw [e1, e2, Bool.or_false]) (by rw [h1]; simpa using h2) ⟨.str ⟨#[c]⟩, H, I.tok _, ⟨_, rfl⟩, q⟩) hs

/-! ### xs[i] = v, any sign -/

/-! ### slices -/
theorem slice_bounds (lo hi : Option Int) (n : Nat) : (sliceBounds lo hi none n).1 = ((HT.sIx n 0 lo : Nat) : Int) ∧ (sliceBounds lo hi none n).2.1 = ((HT.sIx n n hi : Nat) : Int) ∧ (sliceBounds lo hi none n).2.2 = 1 := by
  refine ⟨?_, ?_, rfl⟩
  · cases lo with
    | none => simp [sliceBounds, HT.sIx]
    | some i =>
      simp only [sliceBounds, HT.sIx, Option.getD_none, show (1 : Int) > 0 by decide, if_true]
      by_cases h : i < 0
      · simp only [h, if_true] <;> omega
      · simp only [h, if_false] <;> omega
  · cases hi with
    | none => simp [sliceBounds, HT.sIx]
    | some i =>
      simp only [sliceBounds, HT.sIx, Option.getD_none, show (1 : Int) > 0 by decide, if_true]
      by_cases h : i < 0
      · simp only [h, if_true] <;> omega
      · simp only [h, if_false] <;> omega
theorem slicePick_cut (its : List Value) (lo hi : Option Int) : slicePick its.toArray lo hi none = ((its.drop (HT.sIx its.length 0 lo)).take (HT.sIx its.length its.length hi - HT.sIx its.length 0 lo)).toArray := by
  obtain ⟨h1, h2, h3⟩ := slice_bounds lo hi its.toArray.size
  unfold slicePick
  rw [h1, h2, h3]
  simp only [sliceRange_one, pick_run, List.size_toArray] <;> rfl
/-- xs[lo:hi] of a list: a new list -/
def rSlL (K : PySem.W.Frag) : V → Option Int → Option Int → Hp → VK → Prop := fun x lo hi H Q => ∃ a xs, x = .ref a ∧ SqL K H a xs ∧ ∀ p, H p = none → Q (.ref p) (upd H p (.lst (cutV xs lo hi)))
theorem sl_list : SlR X (rSlL X.K) := by
  intro pins s σ H x v vl vu lo hi sl Q I rx hs pl pu h
  obtain ⟨a, xs, rfl, hx, q⟩ := h
  cases rx
  obtain ⟨its, r, ht, hz⟩ := I.list hx
  have hlen := r.length
  refine ⟨"list", _, slot_list_getitem.lookup, ht.isList.typeIs, ?_⟩
  refine wpAny_getItem_list_slice ht.isList hs pl pu .none (by simp) ?_ (by rw [List.size_toArray] <;> omega)
  rw [slicePick_cut, ← hlen]
  refine ⟨.ref s.heap.objs.size, _, I.laid (t' := s.toks) (o := .lst (cutV xs lo hi)) (fun b ob q => Heap.get?_push_of_some _ q) (Nat.le_refl _) ?_, rfl, q _ (I.hok.fresh (Nat.le_refl _))⟩
  exact ⟨Nat.le_trans (cutV_length xs lo hi) hz, _, 0, (r.drop (HT.sIx xs.length 0 lo)).take (HT.sIx xs.length xs.length hi - HT.sIx xs.length 0 lo), Heap.get?_push_size _ rfl⟩

/-! ### in, not in: flat items -/
theorem op_notIn_str : OpR X (compareOp .NotIn) (fun x y H Q => ∃ i j, x = .str i ∧ y = .str j ∧ Q (.bl (!(!(Builtin.Str.occurrences j i 0 j.length 1).isEmpty))) H) := by
  intro pins s σ H x y v u Q I rx ry h
  obtain ⟨i, j, rfl, rfl, q⟩ := h
  obtain ⟨t, rfl⟩ := rx
  obtain ⟨t', rfl⟩ := ry
  exact notIn_str ⟨.bl _, H, I, rfl, q⟩

/-! ### len, list(x), tuple(x) of any list or tuple that is read -/
theorem call_len_seq : CallR X (.builtin "len") (fun xs H Q => ∃ p ys, xs = [.ref p] ∧ (SqL X.K H p ys ∨ SqT X.K H p ys) ∧ Q (.int ys.length) H) := by
  intro pins s σ H xs us Q I r h
  obtain ⟨p, ys, rfl, hq, q⟩ := h
  obtain ⟨u, rfl, rx⟩ := vals1 r
  cases rx
  have hn := line63
  rcases hq with hq | hq
  · obtain ⟨its, r', pl, hz⟩ := I.list hq
    have hlen := r'.length
    exact Calls.call_len_list pl.isList (by simp only [List.size_toArray] <;> omega) ⟨.int ys.length, H, I.tok _, ⟨s.toks + 1, by rw [List.size_toArray, hlen]⟩, q⟩
  · obtain ⟨its, r', pl, hz⟩ := I.tuple hq
    have hlen := r'.length
    exact len_tuple pl (by simp only [List.size_toArray] <;> omega) ⟨.int ys.length, H, I.tok _, ⟨s.toks + 1, by rw [List.size_toArray, hlen]⟩, q⟩
theorem call_list_of : CallR X (.type "list") (fun xs H Q => ∃ p ys, xs = [.ref p] ∧ (SqL X.K H p ys ∨ SqT X.K H p ys) ∧ ∀ l, H l = none → Q (.ref l) (upd H l (.lst ys))) := by
  intro pins s σ H xs us Q I r h
  obtain ⟨p, ys, rfl, hq, q⟩ := h
  obtain ⟨u, rfl, rx⟩ := vals1 r
  cases rx
  have fin : ∀ (its : List Value), Vals ys its → ys.length ≤ sizeLine → ∀ (h' : Heap) (c' : Nat), (∀ b o', s.heap.get? b = some o' → h'.get? b = some o') →
      h'.get? s.heap.objs.size = some { cls := .type "list", dict := none, data := .seq its.toArray c', slots := #[] } → EP X pins σ Q (.ref s.heap.objs.size) { s with heap := h' } := fun its r' hz h' c' kp e =>
    ⟨.ref s.heap.objs.size, _, I.laid (t' := s.toks) kp (Nat.le_refl _) (show ObjOk X.prog X.w _ h' _ (.lst ys) from ⟨hz, its, c', r', e⟩), rfl, q _ (I.hok.fresh (Nat.le_refl _))⟩
  rcases hq with hq | hq
  · obtain ⟨its, r', pl, hz⟩ := I.list hq
    have hlen := r'.length
    obtain ⟨o, ho, hc, n, hd⟩ := pl.isList
    exact call_list_seq p (.inl rfl) ho hc hd (fun h' c' kp e => fin its r' hz h' c' kp e) (by simp only [List.size_toArray] <;> omega)
  · obtain ⟨its, r', pl, hz⟩ := I.tuple hq
    have hlen := r'.length
    obtain ⟨o, ho, hc, n, hd⟩ := pl
    exact call_list_seq p (.inr rfl) ho hc hd (fun h' c' kp e => fin its r' hz h' c' kp e) (by simp only [List.size_toArray] <;> omega)

/-! ### the call of a builtin's method: o.m(..) -/
/-- the value is of that builtin type -/
def tyV (K : PySem.W.Frag) (T : String) (x : V) (H : Hp) : Prop := match x with
  | .str _ => T = "str"
  | .int _ => T = "int"
  | .ref p => (T = "list" ∧ ∃ xs, SqL K H p xs) ∨ (T = "tuple" ∧ ∃ o, K.lookup p = some o ∧ o.cls = .type "tuple" ∧ o.dict = none) ∨
      (T = "dict" ∧ ((∃ kvs, H p = some (.dK kvs)) ∨ ∃ kvs, H p = some (.dT kvs))) ∨ (T = "set" ∧ ∃ S n, H p = some (.set S n))
  | _ => False
theorem tyV_is {pins : List (Addr × Obj)} {σ : St} {H : Hp} {s : Shared} {T : String} {x : V} {v : Value} (I : Inv X pins σ H s) (r : RelV x v) (ty : tyV X.K T x H) :
    s.TypeIs v T ∧ ∀ a, v = .ref a → ∃ ob, s.heap.get? a = some ob ∧ ob.dict = none := by
  cases x with
  | str z =>
    obtain ⟨t, rfl⟩ := r
    cases (show T = "str" from ty)
    exact ⟨typeIs_str s z t, fun _ e => nomatch e⟩
  | int i =>
    obtain ⟨t, rfl⟩ := r
    cases (show T = "int" from ty)
    exact ⟨typeIs_int s i t, fun _ e => nomatch e⟩
  | ref p =>
    cases r
    rcases ty with ⟨rfl, xs, hq⟩ | ⟨rfl, o, hk, hc, hd⟩ | ⟨rfl, hk⟩ | ⟨rfl, S, n, hk⟩
    · obtain ⟨its, _, pl, _⟩ := I.list hq
      refine ⟨pl.isList.typeIs, fun a e => ?_⟩
      cases e
      obtain ⟨o, n, e, c, hd, _⟩ := pl
      exact ⟨o, e, hd⟩
    · refine ⟨⟨o, I.kIn p o hk, hc⟩, fun a e => ?_⟩
      cases e
      exact ⟨o, I.kIn _ o hk, hd⟩
    · have z : ∃ o, s.heap.get? p = some o ∧ o.ExactDict := by
        rcases hk with ⟨kvs, hk⟩ | ⟨kvs, hk⟩
        · obtain ⟨_, _, _, _, o, _, _, e, ex, _⟩ := I.hok p _ hk
          exact ⟨o, e, ex⟩
        · obtain ⟨_, _, _, _, o, _, _, e, ex, _⟩ := I.hok p _ hk
          exact ⟨o, e, ex⟩
      obtain ⟨o, e, ex⟩ := z
      refine ⟨⟨o, e, ex.1⟩, fun a e2 => ?_⟩
      cases e2
      exact ⟨o, e, ex.2.1⟩
    · obtain ⟨o, _, _, _, e, ex, _⟩ := I.hok p _ hk
      refine ⟨⟨o, e, ex.1⟩, fun a e2 => ?_⟩
      cases e2
      exact ⟨o, e, ex.2.1⟩
  | _ => exact False.elim ty
def tBM (K : PySem.W.Frag) (T : String) (r : V → List V → Hp → VK → Prop) (to : TE) (t : TA) : TE := fun σ H Q => to σ H fun x H1 => tyV K T x H1 ∧ t σ H1 fun xs H2 => r x xs H2 Q
variable {o e : Expr} {es : List Expr} {to : TE} {t : TA} {name : Str} {apos cpos : Pos} {T id : String} {r : V → List V → Hp → VK → Prop}
theorem pe_bm (pa : PlainAttrs T) (slot : Slot T name id) (hty : typeOf (.builtin id) = pure (.type "method_descriptor")) (hm : MtR X id r) (ho : PE X o to) (ha : PA X (e :: es) t)
    (hbase : attributeBase o name X.env (eval o X.env) = eval o X.env := by rfl)
    (hfew : ((backTo cpos (starEach (e :: es) X.env)).all (fun x => !x.1) && (backToKw cpos (keywordEach [] X.env)).all (fun x => x.1.isSome)
      && decide ((e :: es).length + ([] : List Keyword).length + (if ([] : List Keyword).isEmpty then 0 else 1) < 30)) = true := by rfl)
    (hline : (apos.endLine == cpos.line) = true := by rfl) (hs : starEach (e :: es) X.env = (false, eval e X.env) :: starEach es X.env := by rfl) (hplain : (backTo cpos (starEach es X.env)).any (·.1) = false := by rfl) :
    PE X (.Call (.Attribute o name apos) (e :: es) [] cpos) (tBM X.K T r to t) := by
  intro pins s σ H Q I h
  refine wpAny_Call_method_late hbase hfew hline rfl (thn (ho pins s σ H _ I h) fun v s1 ⟨x, H1, I1, r1, ty, q1⟩ => ?_)
  obtain ⟨h1, h2⟩ := tyV_is I1 r1 ty
  refine ⟨T, id, pa, slot, hty, h1, h2, ?_⟩
  have hA := ha cpos pins s1 σ H1 _ I1 q1
  rw [hs] at hA ⊢
  refine Calls.callWith_builtin (by show (false || (backTo cpos (starEach es X.env)).any (·.1)) = false; rw [hplain] <;> rfl) (Calls.evalArgs_plain ?_)
  exact thn hA fun us s2 ⟨vs, H2, I2, r2, q2⟩ => hm pins s2 σ H2 x vs v us Q I2 r1 r2 q2
/- xs.append(e), list.index on a module's tuple .. are MtR facts of 06m -/
end
end L2

namespace L2
open PySem PySem.Spec PyProof.Rows

def MtM (X : Cx) (id : String) (r : V → List V → Hp → VK → Prop) : Prop :=
  ∀ (pins : List (Addr × Obj)) (s : Shared) (σ : St) (H : Hp) (x : V) (xs : List V) (v : Value) (us : List Value) (Q : VK), Inv X pins σ H s → RelV x v → Vals xs us → r x xs H Q →
    wpAny (model X.prog X.w) X.A (call (.builtin id) (v :: us)) (EP X pins σ Q) X.xe s

/-! ### lists of values -/
theorem Vals.one : ∀ {x : V} {us : List Value}, Vals [x] us → ∃ u, us = [u] ∧ RelV x u
  | _, _, .cons r .nil => ⟨_, rfl, r⟩
theorem Vals.zero : ∀ {us : List Value}, Vals [] us → us = []
  | _, .nil => rfl

section
variable {X : Cx} {pins : List (Addr × Obj)} {σ : St} {H : Hp} {s : Shared} {l b : Addr} {xs ys zs : List V}

/-! ### the two steps: a tracked list is rewritten, a new list is laid -/
theorem Inv.lset {its its' : List Value} {n : Nat} {f : Array Value → Array Value} {t' : Nat} (I : Inv X pins σ H s) (hH : H l = some (.lst xs))
    (e : s.heap.get? l = some { cls := .type "list", data := .seq its.toArray n }) (hf : f its.toArray = its'.toArray) (hv : Vals ys its') (hz : ys.length ≤ sizeLine) :
    Inv X pins σ (upd H l (.lst ys)) { s with heap := s.heap.update l (Obj.mapSeq f), toks := t' } := by
  have q := PySem.IsL.update e f
  rw [hf] at q
  refine I.write (x := l) (e := l) (by rw [hH]; exact trivial) (.inl rfl) (fun b' u hb hu => (Heap.get?_update_other s.heap (Obj.mapSeq f) (Ne.symm hb)).trans hu) ⟨_, q⟩ ?_
  exact ⟨hz, its', _, hv, q⟩
theorem Inv.lnew {its : List Value} {t' : Nat} (I : Inv X pins σ H s) (hv : Vals ys its) (hz : ys.length ≤ sizeLine) :
    Inv X pins σ (upd H s.heap.objs.size (.lst ys)) { s with heap := s.heap.push { cls := .type "list", data := .seq its.toArray }, toks := t' } :=
  I.laid (fun _ _ q => Heap.get?_push_of_some _ q) (Nat.le_refl _) ⟨hz, its, 0, hv, Heap.get?_push_size _ rfl⟩
theorem Inv.fresh (I : Inv X pins σ H s) : H s.heap.objs.size = none := I.hok.fresh (Nat.le_refl _)
theorem Inv.lstM (I : Inv X pins σ H s) (hH : H l = some (.lst xs)) : xs.length ≤ sizeLine ∧ ∃ (its : List Value) (n : Nat), Vals xs its ∧ xs.length = its.length ∧ s.heap.get? l = some { cls := .type "list", data := .seq its.toArray n } := by
  obtain ⟨z, its, n, r, e⟩ := I.hok l _ hH
  exact ⟨z, its, n, r, r.length, e⟩

theorem notLongL {n : Nat} (h : n ≤ sizeLine) : Builtin.List.listTooLong n = false := by
  unfold Builtin.List.listTooLong
  exact decide_eq_false (by omega)
end

section
variable {X : Cx}

/-! ### methods -/
def rAppend : V → List V → Hp → VK → Prop := fun x vs H Q => ∃ l xs y, x = .ref l ∧ vs = [y] ∧ H l = some (.lst xs) ∧ xs.length < sizeLine ∧ Q .non (upd H l (.lst (xs ++ [y])))
theorem mt_append : MtM X "list.append" rAppend := by
  intro pins s σ H x vs v us Q I rx rv h
  obtain ⟨l, xs, y, rfl, rfl, hH, hz, q⟩ := h
  cases rx
  obtain ⟨u, rfl, ru⟩ := rv.one
  obtain ⟨z, its, n, r, hl, e⟩ := I.lstM hH
  refine call_meets F.slot_list_append ⟨_, e, rfl⟩ F.entry_list_append (F.args_list_append_2 _ _) (PySem.list_append l its.toArray n u (by rw [List.size_toArray]; omega)) ⟨e, ?_⟩
  refine ⟨.non, _, I.lset (its' := its ++ [u]) hH e (by simp) (r.append (.cons ru .nil)) ?_, rfl, q⟩
  rw [List.length_append, List.length_singleton]
  omega

def rExtend : V → List V → Hp → VK → Prop := fun x vs H Q => ∃ l b xs zs, x = .ref l ∧ vs = [.ref b] ∧ H l = some (.lst xs) ∧ H b = some (.lst zs) ∧ xs.length + zs.length ≤ sizeLine ∧ Q .non (upd H l (.lst (xs ++ zs)))
theorem mt_extend : MtM X "list.extend" rExtend := by
  intro pins s σ H x vs v us Q I rx rv h
  obtain ⟨l, b, xs, zs, rfl, rfl, hH, hB, hz, q⟩ := h
  cases rx
  obtain ⟨u, rfl, ru⟩ := rv.one
  cases ru
  obtain ⟨z, its, n, r, hl, e⟩ := I.lstM hH
  obtain ⟨z2, its2, n2, r2, hl2, e2⟩ := I.lstM hB
  have hsz : its.toArray.size + its2.toArray.size ≤ sizeLine := by rw [List.size_toArray, List.size_toArray]; omega
  have hlong : ¬ (!its.toArray.isEmpty && Builtin.List.listTooLong (its.toArray.size + its2.toArray.size)) = true := by
    rw [notLongL hsz, Bool.and_false]
    exact Bool.false_ne_true
  refine call_meets F.slot_list_extend ⟨_, e, rfl⟩ F.entry_list_extend (F.args_list_extend_2 _ _)
    (AutoSeq1.list_extend_list_list_0 l its.toArray n b its2.toArray n2 hlong (by rw [List.size_toArray]; omega) (by omega)) ⟨e, e2, ?_⟩
  refine ⟨.non, _, I.lset (its' := its ++ its2) hH e (by simp) (r.append r2) ?_, rfl, q⟩
  rw [List.length_append]
  omega





/-! ### list + list, list += list, list * int -/
def rCat : R2 := fun x y H Q => ∃ l b xs zs, x = .ref l ∧ y = .ref b ∧ H l = some (.lst xs) ∧ H b = some (.lst zs) ∧ xs.length + zs.length ≤ sizeLine ∧ ∀ p, H p = none → Q (.ref p) (upd H p (.lst (xs ++ zs)))
theorem op_cat : OpR X (binaryOp .Add) rCat := by
  intro pins s σ H x y v u Q I rx ry h
  obtain ⟨l, b, xs, zs, rfl, rfl, hH, hB, hz, q⟩ := h
  cases rx
  cases ry
  obtain ⟨z, its, n, r, hl, e⟩ := I.lstM hH
  obtain ⟨z2, its2, n2, r2, hl2, e2⟩ := I.lstM hB
  refine PySem.P.add_list e e2 ?_ (by rw [List.size_toArray, List.size_toArray]; omega)
  have ea : its.toArray ++ its2.toArray = (its ++ its2).toArray := by simp
  rw [ea]
  exact ⟨.ref _, _, I.lnew (t' := s.toks) (r.append r2) (by rw [List.length_append]; omega), rfl, q _ I.fresh⟩

/-! ### del xs[i] -/
end

/-! ### xs[a:b] = ys -/
section
variable {prog : Program} {w : World} {A : Around} {E : Value → Shared → Prop} {s : Shared}
set_option maxRecDepth 100000 in
end

section
variable {X : Cx}
end
end L2

namespace Att
open PySem PySem.W PySem.Calls PyProof.Rows

/-! ### the script -/
theorem ints_of_wellAll {P : Params} {h : Heap} : ∀ (ns : List Int) (vs : List Value), WellAll P h vs (ns.map WData.int) → IntsAre vs ns := by
  intro ns
  induction ns with
  | nil =>
    intro vs w
    rw [List.map_nil] at w
    cases w
    exact .nil
  | cons n ns ih =>
    intro vs w
    rw [List.map_cons] at w
    cases w with
    | cons a b =>
      cases a
      exact .cons _ _ (ih _ b)

theorem script_of {l : OpenLaw} {n : Nat} (hn : l.most = some n) {P : Params} {h : Heap} {args : List WData} {vals : List Value}
    (hpre : l.row.toRowW.claim.pre args = true) (hwl : WellAll P h vals args) :
    ∃ a vs ns, vals = [Value.ref a] ∧ args = [WData.list (ns.map WData.int)] ∧ h.get? a = some { cls := .type "list", data := .seq vs.toArray } ∧ IntsAre vs ns ∧ ns.length ≤ n := by
  have hsh : WShape.hasAll [] args [.list .int] = true := (pre_splitW hpre).1
  have hc : l.pre.holds [] { args := args } = true := (pre_splitW hpre).2
  obtain ⟨d, r, rfl, h1, h2⟩ := hasAllW_cons hsh
  obtain rfl := hasAllW_nil h2
  obtain ⟨xs, rfl, h3⟩ := hasW_list h1
  obtain ⟨ns, rfl⟩ := items_int h3
  have hlen : ns.length ≤ n := by
    unfold OpenLaw.pre at hc
    have h4 : (WTm.not (.lt (.lit (.int (n : Int))) (.len (.arg 0)))).holds [] { args := [.list (ns.map .int)] } = true := by
      have h4 := (holds_andW hc).1
      rw [hn] at h4
      exact h4
    have h5 := condW_of h4 (w_not (w_lt w_lit (w_len_list (w_arg rfl))))
    rw [List.length_map] at h5
    refine Nat.le_of_not_lt fun q => ?_
    have q' : (n : Int) < ((ns.length : Nat) : Int) := by omega
    first
      | (rw [decide_eq_true q'] at h5; exact absurd h5 (by decide))
      | (simp at h5; omega)
  cases hwl with
  | cons w1 w2 =>
    cases w2
    cases w1 with
    | list ho hall => exact ⟨_, _, ns, rfl, rfl, ho, ints_of_wellAll ns _ hall, hlen⟩

theorem post_true (l : OpenLaw) (args : List WData) : l.row.toRowW.claim.post args (.bool true) args = true :=
  postW_of (r := l.row.toRowW) (X := (true == true))
    (show WShape.has [] (.bool true) .bool = true by first | rfl | decide | simp [WShape.has, WShape.arms, WShape.armsAll])
    (show (WTm.eq .res (.lit (.bool true))).value [] { args := args, res := some (.bool true), after := args } = some (.bool (true == true)) from w_eq_bool (w_res rfl) w_lit) rfl

/-! ### the attachment: holds_open's last premise (the goal 'hc' behind k_head) from a wpAny of the law's body -/

/-- the same from a codeAny of the CALL (for a layer whose function contracts speak of calls) -/
theorem attach_call {l : OpenLaw} {n : Nat} {q : Program} {loose : List Str} {XP : (Str → Option Value) → Heap → Prop} {YP : World → Heap → Prop} {d : DefRec}
    (hn : l.most = some n) (hdf : d.params.defaults = [])
    (call : ∀ (w : World) (s₀ s₁ : Shared) (mg mb : Str → Option Value) (fa : Addr) (o : Obj) (pm cd doc : Value) (a : Addr) (vs : List Value) (ns : List Int),
      Ground q loose [] XP w s₀ mg mb s₁.heap → YP w s₁.heap →
      s₁.heap.get? fa = some o → o.data = .func (docDef d.name d.params d.body d.scope pm cd doc) → s₁.heap.CodeRec cd d.name → mg d.name = some (.ref fa) →
      s₁.heap.get? a = some { cls := .type "list", data := .seq vs.toArray } → IntsAre vs ns → ns.length ≤ n → s₁.gens = #[] →
      codeAny (model l.prog w) callerA (.call (.ref fa) ⟨[.ref a], []⟩) (fun r s' => r = .ok (.ret (.bool true)) ∧ OldK s₁.heap s'.heap ∧ s'.os = s₁.os ∧ AllBare s'.gens) s₁) :
    WalkO q loose XP YP l.row.toRowW d [] (fun f vs => PySem.call f vs) := by
  intro w s₀ s₁ mg mb G Y fa o pm cd doc dV kV ho hd hcd hD hmg hg args vals as hpre hlay hrd hwl hlo
  obtain rfl : dV = .none := Dflts.none hD hdf
  obtain rfl : kV = .none := Dflts.noKw hD
  obtain ⟨a, vs, ns, rfl, rfl, hobj, hints, hlen⟩ := script_of hn hpre hwl
  refine enter_call (codeAny_mono (call w s₀ s₁ mg mb fa o pm cd doc a vs ns G Y ho (fd_plain hd) hcd hmg hobj hints hlen hg) fun r s' hq => ?_)
  obtain ⟨rfl, h2, h3, h4⟩ := hq
  exact ⟨.inl ⟨.bool true, .bool true, [], rfl, fun _ => rfl, .bool true, post_true l _, fun _ => ⟨List.Pairwise.nil, fun _ hm => (nomatch hm)⟩⟩, h2, h3, h4⟩


/-! ### rules over ANY heap (no ledger) from facts about the written part K: the library's own take a ledger (News) for what they write -/
section
variable {prog : Program} {w : World} {A : Around} {E : Value → Shared → Prop} {s : Shared} {K : Frag}





/-! the whole heap as the ledger: makes every rule that writes through a ledger a rule over any heap -/

end
end Att

namespace L2
open PySem PySem.Spec PyProof.Rows

theorem vals_ints : ∀ {vs : List Value} {ns : List Int}, IntsAre vs ns → Vals (ns.map V.int) vs
  | _, _, .nil => .nil
  | _, _, .cons n t h => .cons ⟨t, rfl⟩ (vals_ints h)

/-- nothing is tracked but the script, known to the object (or it is an object of the module) -/
def Only (H : Hp) : Prop := ∀ b, H b = none ∨ ∃ o xs, H b = some (.frz o (.lst xs))

/-- THE HEAD: the law's promise, at the heap behind the top. F, the promise of the law's def, may use that base is part of the heap (so K.In base, base.Ns mainGlobals mg stand in Mod) -/
theorem law_call {P : Program} {w : World} {K : PySem.W.Frag} {mg mb : Str → Option Value} {CX : CXT} {k : Nat} {fa a : Addr} {fd : FuncData} {x : Str} {sp : Sp} {s₁ : Shared} {vs : List Value} {ns : List Int}
    (KX : K.In s₁.heap) (hns : s₁.heap.Ns mainGlobals mg) (hb : s₁.heap.Ns builtinsNs mb) (hbb : ∀ x : Str, x ≠ "__name__" → mb x = bootBuiltins x) (hlim : s₁.heap.NoLimit) (hg : s₁.gens = #[])
    (ha : s₁.heap.get? a = some { cls := .type "list", data := .seq vs.toArray }) (hi : IntsAre vs ns) (hl : ns.length ≤ sizeLine) (hr : Room k callerA)
    (F : ∀ base : Heap, K.In base → base.Ns mainGlobals mg → FnOk P w K mg base CX k fa fd [x] sp) (hbind : ∀ (s : Shared) (u : Value), BindsTo s fd ⟨[u], []⟩ [(x, u)])
    (hsp : ∀ H : Hp, Only H → SqL K H a (ns.map V.int) → sp [.ref a] H (fun v _ => v = .bl true) fun _ _ _ => False)
    (hCX : ∀ H e s', CX [] H s₁ (fun _ _ _ => False) e s' → False) :
    codeAny (model P w) callerA (.call (.ref fa) ⟨[.ref a], []⟩) (fun r s' => r = .ok (.ret (.bool true)) ∧ OldK s₁.heap s'.heap ∧ s'.os = s₁.os ∧ AllBare s'.gens) s₁ := by
  have rv := vals_ints hi
  have lenV := hi.length
  -- from an abstract heap in which nothing but the script may be tracked
  have core : ∀ H : Hp, Only H → SqL K H a (ns.map V.int) → HOk P w H s₁.heap → (∀ b, H b ≠ none → b = a) → (H a ≠ none → K.lookup a = none) →
      codeAny (model P w) callerA (.call (.ref fa) ⟨[.ref a], []⟩) (fun r s' => r = .ok (.ret (.bool true)) ∧ OldK s₁.heap s'.heap ∧ s'.os = s₁.os ∧ AllBare s'.gens) s₁ := by
    intro H hO hS hok hA hK
    have base_of : ∀ {b : Addr} {o : Obj}, s₁.heap.get? b = some o → H b = none → (hidT s₁.heap H).get? b = some o := fun e n => hidT_get e n
    have noA : ∀ {b : Addr} {o : Obj} {es : Array DictEntry} {ep : Nat}, s₁.heap.get? b = some o → o.data = .dict es ep → H b = none := fun {b o es ep} e d => by
      cases q : H b with
      | none => rfl
      | some u =>
        have e' : b = a := hA b (by rw [q]; simp)
        subst e'
        rw [ha] at e; cases e
        have d' : Data.seq vs.toArray _ = Data.dict es ep := d
        cases d'
    have nsK : ∀ {b : Addr} {m : Str → Option Value}, s₁.heap.Ns b m → (hidT s₁.heap H).Ns b m := fun {b m} ⟨o, es, ep, e, d, r⟩ => ⟨o, es, ep, base_of e (noA e d), d, r⟩
    have hKb : K.In (hidT s₁.heap H) := fun b o e => base_of (KX b o e) (by
      cases q : H b with
      | none => rfl
      | some u =>
        have e' : b = a := hA b (by rw [q]; simp)
        subst e'
        rw [hK (by rw [q]; simp)] at e; cases e)
    have hM : Mod K mg (hidT s₁.heap H) := ⟨hKb, nsK hns, ⟨mb, nsK hb, hbb⟩, let ⟨mc, h1, h2⟩ := hlim; ⟨mc, nsK h1, h2⟩⟩
    have e0 : Env0 P w K mg (hidT s₁.heap H) callerA [] s₁ H := ⟨rfl, hM, fun b o e => of_hidT e, Nat.le_of_eq (hidT_size _ _), trivial, fun b hb => absurd (show b ∈ ([] : List Addr) from hb) (by simp), hok, .of_eq hg⟩
    refine codeAny_mono ((F _ hKb (nsK hns)).run callerA [] s₁ H ⟨[.ref a], []⟩ [.ref a] [.ref a] _ _ hr e0 (hbind s₁ (.ref a)) (.cons rfl .nil) (hsp H hO hS)) fun r s' h => ?_
    cases r with
    | error e => exact (hCX H e s' h).elim
    | ok fl =>
      cases fl with
      | next => exact False.elim h
      | brk => exact False.elim h
      | cont => exact False.elim h
      | ret u =>
        obtain ⟨v, H', os, bare, un, hok', r', q⟩ := h
        have q' : v = .bl true := q
        subst q'
        obtain rfl : u = Value.bool true := r'
        refine ⟨rfl, OldK.of_keep fun b o e => ?_, os, bare⟩
        cases q : H b with
        | none => exact un.keep b o e q (by intro z; exact absurd (show b ∈ ([] : List Addr) from z) (by simp)) (by simp)
        | some u =>
          rcases hO b with z | ⟨ob, xs, z⟩
          · rw [q] at z; cases z
          · have z2 := un.frzs b ob _ z
            obtain ⟨e1, _⟩ := hok b _ z
            obtain ⟨e2, _⟩ := hok' b _ z2
            rw [e] at e1; cases e1
            exact e2
  cases hk : K.lookup a with
  | some o =>
    -- the script is one of the module's own objects
    have e := KX a o hk
    rw [ha] at e
    cases e
    refine core (fun _ => none) (fun _ => .inl rfl) (.inr ⟨_, vs.toArray, _, hk, rfl, rfl, rfl, by rw [List.size_toArray, lenV]; exact hl, by simpa using rv⟩) (fun b u z => by have z' : (none : Option HO) = some u := z; cases z') (fun b z => absurd rfl z) fun z => absurd rfl z
  | none =>
    refine core (fun b => if b = a then some (.frz { cls := .type "list", data := .seq vs.toArray } (.lst (ns.map V.int))) else none) (fun b => ?_) (.inl (.inr ⟨{ cls := .type "list", data := .seq vs.toArray }, if_pos rfl⟩)) (fun b u z => ?_) (fun b z => ?_) fun _ => hk
    · by_cases hb : b = a
      · exact .inr ⟨_, _, if_pos hb⟩
      · exact .inl (if_neg hb)
    · by_cases hb : b = a
      · have z' := (if_pos hb).symm.trans z
        cases z'
        subst hb
        exact ⟨ha, by rw [List.length_map]; exact hl, vs, _, rv, ha⟩
      · have z' := (if_neg hb).symm.trans z
        cases z'
    · by_cases hb : b = a
      · exact hb
      · exact absurd (if_neg hb) z
end L2

namespace L2
open PySem PySem.Spec PyProof.Rows


/-- the goal that k_head leaves (case hc), from the law's promise. F gives the function object fd (K's own) once, then the promise over every base -/
theorem walk_of {l : PySem.W.OpenLaw} {n k : Nat} {q : Program} {loose : List Str} {XP : (Str → Option Value) → Heap → Prop} {YP : World → Heap → Prop} {d : DefRec} {K : Params → PySem.W.Frag} {CX : World → CXT} {sp : World → Sp} {x : Str}
    (hn : l.most = some n) (hn2 : n ≤ sizeLine) (hdf : d.params.defaults = []) (hr : Room k callerA)
    (hY : ∀ (w : World) (h : Heap), YP w h → (K w.params).In h)
    (F : ∀ (w : World) (mg : Str → Option Value) (fa : Addr) (h : Heap), (K w.params).In h → h.Ns mainGlobals mg → mg d.name = some (.ref fa) →
      ∃ fd : FuncData, (∀ (s : Shared) (u : Value), BindsTo s fd ⟨[u], []⟩ [(x, u)]) ∧
        ∀ base : Heap, (K w.params).In base → base.Ns mainGlobals mg → FnOk l.prog w (K w.params) mg base (CX w) k fa fd [x] (sp w))
    (hsp : ∀ (w : World) (H : Hp) (a : Addr) (ns : List Int), ns.length ≤ n → Only H → SqL (K w.params) H a (ns.map V.int) → sp w [.ref a] H (fun v _ => v = .bl true) fun _ _ _ => False)
    (hCX : ∀ (w : World) (H : Hp) (s : Shared) (e : Value) (s' : Shared), CX w [] H s (fun _ _ _ => False) e s' → False) :
    PySem.W.WalkO q loose XP YP l.row.toRowW d [] (fun f vs => PySem.call f vs) := by
  refine Att.attach_call hn hdf fun w s₀ s₁ mg mb fa o pm cd doc a vs ns G Y ho hd hcd hmg hobj hints hlen hg => ?_
  have KX := hY w _ Y
  obtain ⟨fd, hb, hF⟩ := F w mg fa _ KX G.T.g hmg
  exact law_call KX G.T.g G.T.b G.T.builtins G.T.nolimit hg hobj hints (Nat.le_trans hlen hn2) hr hF hb (fun H hO hS => hsp w H a ns hlen hO hS) fun H e s' => hCX w H s₁ e s'
end L2

/-! SHORT WORDS over the layer: a def of the text, its body, what a loop and a test want. -/
namespace L2
open PySem PySem.Spec PyProof.Rows

/-! ### the text by places -/
def defArgs (s : Stmt) : Arguments := match s with
  | .FunctionDef _ a _ _ _ _ _ _ _ _ => a
  | _ => { posonlyargs := [], args := [], vararg := none, kwonlyargs := [], kw_defaults := [], kwarg := none, defaults := [] }
def defBody (s : Stmt) : List Stmt := match s with
  | .FunctionDef _ _ b _ _ _ _ _ _ _ => b
  | _ => []
def defScope (s : Stmt) : Scope := match s with
  | .FunctionDef _ _ _ _ _ _ sc _ _ _ => sc
  | _ => { kind := .function, names := [], isGenerator := false, isCoroutine := false }

/-! ### no exception leaves a def -/
abbrev CX0 : CXT := fun _ _ _ _ _ _ => False
abbrev E0 : XK := fun _ _ _ => False
theorem pass0 {X : Cx} : Passes CX0 X E0 := fun _ _ _ _ _ _ _ h => h.elim

/-! ### a def (or method) of the text as it stands behind the top -/
structure Fun (K : PySem.W.Frag) (x qual : Str) (st : Stmt) (f : Addr) (fd : FuncData) : Prop where
  ex : ∃ (oc : Value) (od : Option Addr) (kV doc pm : Value) (an : Option Addr) (cdv ct : Value) (osl : Array (Option Value)),
    fd = PySem.W.fnOf x qual (defArgs st) (defBody st) (defScope st) .none kV doc pm an cdv ct ∧ K.lookup f = some ⟨oc, od, .func fd, osl⟩ ∧ PySem.W.codeIn K cdv qual = true
  kp : PySem.W.keepIn K (.ref f) = true
section
variable {P : Program} {w : World} {K : PySem.W.Frag} {mg : Str → Option Value} {base : Heap}
/-- THE RULE for a def: its body as a term of rules, and the reading of that term -/
theorem Fun.ok {x qual : Str} {st : Stmt} {f : Addr} {fd : FuncData} {N ps : List Str} {k : Nat} {sp : Sp} (F : Fun K x qual st f fd) (S : FnScope N ps (defScope st)) (len : ∀ vs H Q E, sp vs H Q E → vs.length = ps.length)
    (hbody : ∀ (cdv : Value) (A : Around) (outer : List Env) (s : Shared) (H : Hp) (vs : List V) (Q : VK) (E : XK), Room k (A.deeper (envOfC qual (defScope st) s.heap.objs.size f cdv)) → sp vs H Q E →
      ∃ t, PSs (cxOf CX0 P w K mg base N qual (defScope st) f cdv A outer s H E).nox (defBody st) t ∧ t { nx := fun _ H' => Q .non H', rt := Q } (start N vs) H) : FnOk P w K mg base CX0 (k + 1) f fd ps sp := by
  obtain ⟨oc, od, kV, doc, pm, an, cdv, ct, osl, rfl, lk, hcd⟩ := F.ex
  refine fn_of lk hcd S len fun A outer s H vs Q E hr hsp => ?_
  obtain ⟨t, h, q⟩ := hbody cdv A outer s H vs Q E hr hsp
  exact ⟨t, h.nox, q⟩
/-- how its arguments bind (no defaults): h is «fun _ _ _ _ _ _ us hl => match us, hl with | [_, _], _ => rfl», one _ a parameter -/
theorem Fun.binds {x qual : Str} {st : Stmt} {f : Addr} {fd : FuncData} {ps : List Str} (F : Fun K x qual st f fd)
    (h : ∀ (kV doc pm : Value) (an : Option Addr) (cdv ct : Value) (us : List Value), us.length = ps.length → bindArgs (PySem.W.fnOf x qual (defArgs st) (defBody st) (defScope st) .none kV doc pm an cdv ct) ⟨us, []⟩ = pure (ps.zip us)) : Binds K fd ps [] := by
  obtain ⟨oc, od, kV, doc, pm, an, cdv, ct, osl, rfl, lk, hcd⟩ := F.ex
  exact .all (h kV doc pm an cdv ct)
theorem fun_mk {x qual : Str} {st : Stmt} {f : Addr} {oc : Value} {od an : Option Addr} {osl : Array (Option Value)} {kV doc pm cdv ct : Value} (l : K.lookup f = some ⟨oc, od, .func (PySem.W.fnOf x qual (defArgs st) (defBody st) (defScope st) .none kV doc pm an cdv ct), osl⟩)
    (c : PySem.W.codeIn K cdv qual = true) (k : PySem.W.keepIn K (.ref f) = true) : Fun K x qual st f (PySem.W.fnOf x qual (defArgs st) (defBody st) (defScope st) .none kV doc pm an cdv ct) := ⟨⟨oc, od, kV, doc, pm, an, cdv, ct, osl, rfl, l, c⟩, k⟩
end

/-! ### expressions in short: the name that stands in the i-th slot -/
section
variable {X : Cx}
theorem pv (i : Nat) {x : Str} {pos : Pos} (hN : X.N[i]? = some x := by rfl) (hv : Vis X.env.scope x := by first | exact Or.inl rfl | exact Or.inr (Or.inl rfl) | exact Or.inr (Or.inr rfl)) (hd : (x == ("__debug__" : Str)) = false := by decide)
    (hcd : (x == ("__classdict__" : Str)) = false := by decide) : PE X (.Name x pos) (tVar i) := pe_var hN hv hd hcd
end

/-! ### tests -/
theorem iteF {A B : Prop} (h : B) : if false = true then A else B := by
  rw [if_neg Bool.false_ne_true]
  exact h
theorem iteT {A B : Prop} (h : A) : if true = true then A else B := by
  rw [if_pos rfl]
  exact h
theorem iteNS {c A B : Prop} [Decidable c] (hc : c) (h : B) : if (!decide c) = true then A else B := by
  rw [decide_eq_true hc]
  exact iteF h

/-! ### heaps -/
/-- all that was tracked is as it was -/
def Same (H H' : Hp) : Prop := ∀ b o, H b = some o → H' b = some o
theorem Same.refl (H : Hp) : Same H H := fun _ _ h => h
theorem Same.trans {H H1 H2 : Hp} (a : Same H H1) (b : Same H1 H2) : Same H H2 := fun c o h => b c o (a c o h)
theorem Same.free {H H' : Hp} (e : Same H H') {l : Addr} (h : H' l = Option.none) : H l = Option.none := by
  cases q : H l with
  | none => rfl
  | some o =>
    rw [e l o q] at h
    cases h

end L2

set_option maxHeartbeats 4000000
namespace L2
open PySem PySem.Spec PyProof.Rows
section
variable {X : Cx} {a b c d : Expr} {ta tb tc td : TE} {pos : Pos}
/-- a op1 b op2 c op3 d -/
def tChain3 (r r' r'' : R2) (ta tb tc td : TE) : TE := fun σ H Q => ta σ H fun x H1 => tb σ H1 fun y H2 => r x y H2 fun z H3 => ∃ k, z = .bl k ∧
  (if k = true then tc σ H3 fun w' H4 => r' y w' H4 fun z' H5 => ∃ k', z' = .bl k' ∧ (if k' = true then td σ H5 fun q H6 => r'' w' q H6 Q else Q (.bl false) H5) else Q (.bl false) H3)
theorem pt_chain3 {op op' op'' : CmpOp} {r r' r'' : R2} (ho : OpR X (compareOp op) r) (ho' : OpR X (compareOp op') r') (ho'' : OpR X (compareOp op'') r'') (ha : PE X a ta) (hb : PE X b tb) (hc : PE X c tc) (hd : PE X d td)
    (hm : lastMarks [op, op', op''] [b, c, d] = false := by with_unfolding_all rfl) : PT X (.Compare a [op, op', op''] [b, c, d] pos) (tTest (tChain3 r r' r'' ta tb tc td)) := by
  intro pins s σ H Q I h
  refine isTrue_chain (thn (ha pins s σ H _ I h) fun v s1 ⟨x, H1, I1, r1, q1⟩ => test_link (thn (hb pins s1 σ H1 _ I1 q1) fun u s2 ⟨y, H2, I2, r2, q2⟩ =>
    thn (ho pins s2 σ H2 x y v u _ I2 r1 r2 q2) fun d s3 ⟨z, H3, I3, r3, k, e, q3⟩ => ?_)) hm
  subst e
  cases r3
  refine wpAny_truthy_bool ?_
  cases k with
  | false =>
    obtain ⟨k', e', q'⟩ := q3
    cases e'
    exact ite_ff ⟨H3, I3, q'⟩
  | true =>
    refine ite_tt (test_link (thn (hc pins s3 σ H3 _ I3 q3) fun w' s4 ⟨z', H4, I4, r4, q4⟩ => thn (ho' pins s4 σ H4 y z' u w' _ I4 r2 r4 q4) fun d' s5 ⟨z2, H5, I5, r5, k2, e2, q5⟩ => ?_))
    subst e2
    cases r5
    refine wpAny_truthy_bool ?_
    cases k2 with
    | false =>
      obtain ⟨k', e', q'⟩ := q5
      cases e'
      exact ite_ff ⟨H5, I5, q'⟩
    | true =>
      refine ite_tt (test_last (thn (hd pins s5 σ H5 _ I5 q5) fun w2 s6 ⟨z3, H6, I6, r6, q6⟩ => thn (ho'' pins s6 σ H6 z' z3 w' w2 _ I6 r4 r6 q6) fun d2 s7 ⟨z4, H7, I7, r7, k3, e3, q7⟩ => ?_))
      subst e3
      cases r7
      exact wpAny_truthy_bool ⟨H7, I7, q7⟩
end

/-! ### enumerate over a list, its pairs taken apart -/
def Ite (K : PySem.W.Frag) (a : Addr) : It :=
  ⟨fun i H => ∃ xs x, SqL K H a xs ∧ xs[i]? = some x,
   fun i H x H' => ∃ p v, x = .ref p ∧ H p = none ∧ H' = upd H p (.tup [.int (i : Nat), v]) ∧ ∀ xs, SqL K H a xs → xs[i]? = some v,
   fun i H => ∃ xs, SqL K H a xs ∧ xs.length ≤ i⟩
theorem turn_enum {P : Program} {w : World} {K : PySem.W.Frag} {es : List Expr} {k : Nat} {tp : Pos} (a e it : Addr) (hne : e ≠ it) :
    Turn P w K (.Tuple es k tp) (Ite K a) [e, it] e (fun i h => (∃ old, IsEnum h e it ((i : Nat) : Int) old) ∧ h.IsListIter it a i) where
  mem := by simp
  obj := fun i h st b hb => by
    obtain ⟨⟨old, he⟩, o, hi, c, d⟩ := st
    rcases List.mem_cons.mp hb with q | hb
    · subst q
      exact ⟨_, he, fun v z => by
        have z' : Data.fields _ = Data.cell v := z
        cases z'⟩
    · have q : b = it := by simpa using hb
      subst q
      exact ⟨o, hi, fun v z => by rw [d] at z; cases z⟩
  keep := fun i h h' st k => by
    obtain ⟨⟨old, he⟩, hi⟩ := st
    exact ⟨⟨old, k e (by simp) _ he⟩, hi.at fun o x => k it (by simp) o x⟩
  item := by
    intro X hP hw hK hc i pins s σ H E I hf st hg
    subst hP hw hK
    obtain ⟨xs, x, hq, hx⟩ := hg
    obtain ⟨its, rv, p, hz⟩ := I.list hq
    obtain ⟨u, hu, ru⟩ := rv.get hx
    obtain ⟨⟨old, he⟩, hit⟩ := st
    have fe := hf e (by simp)
    have fi := hf it (by simp)
    refine wpAny_pyNext_enum_item he hit p.isList (x := u) (by simpa using hu) hne fun h' ho hit' ht hsz hk => ?_
    refine ⟨_, rfl, ?_⟩
    refine wpAny_letOwnedTupleGo_enum (s := { s with heap := h', toks := s.toks + 1 }) ho fun h2 he2 hs2 => ?_
    have hel : e < s.heap.objs.size := Heap.lt_size he
    have keep2 : ∀ b o, b ≠ e → b ≠ it → s.heap.get? b = some o → h2.get? b = some o := fun b o h1 h3 h4 => (hs2.2 b h1).trans (hk b o h1 h3 h4)
    have hT : h2.get? s.heap.objs.size = some { cls := .type "tuple", data := .seq #[.int i s.toks, u] } := (hs2.2 _ (Nat.ne_of_gt hel)).trans ht
    have hn : H s.heap.objs.size = none := I.hok.fresh (Nat.le_refl _)
    have ne2 : ∀ b o, H b = some o → b ≠ e ∧ b ≠ it := fun b o hb => ⟨ne_of_none hb fe.1, ne_of_none hb fi.1⟩
    have hok : HOk X.prog X.w (upd H s.heap.objs.size (.tup [.int (i : Nat), x])) h2 := by
      intro b o hb
      by_cases q : b = s.heap.objs.size
      · subst q
        rw [upd_same] at hb
        cases hb
        exact ⟨by show 2 ≤ sizeLine; decide, [.int i s.toks, u], .cons ⟨_, rfl⟩ (.cons ru .nil), ⟨_, hT, rfl, _, rfl⟩⟩
      · rw [upd_ne q] at hb
        refine (I.hok b o hb).stay (fun b' o' hb' e' => ?_) (fun b' hb' => ?_) (fun b' xs' hb' => ?_)
        · rcases hb' with q' | q'
          · subst q'
            exact keep2 _ _ (ne2 _ _ hb).1 (ne2 _ _ hb).2 e'
          · exact keep2 _ _ (ne2 _ _ q').1 (ne2 _ _ q').2 e'
        · rw [upd_ne (ne_of_none hb' hn)]; exact hb'
        · rw [upd_ne (ne_of_none hb' hn)]; exact hb'
    have I2 : Inv X pins σ (upd H s.heap.objs.size (.tup [.int (i : Nat), x])) { s with heap := h2, toks := s.toks + 1 } := by
      refine I.step (ch := [e, it]) (g' := s.gens) (d' := s.drawn) (t' := s.toks + 1) ?_ ?_ ?_ ?_ ?_ ?_ ?_ ?_ ?_ hok I.bare
      · intro b hb
        rcases List.mem_cons.mp hb with q | hb
        · subst q; exact ⟨fe.2.2.2.1, fe.2.1, fe.2.2.2.2.1, fe.2.2.2.2.2⟩
        · have q : b = it := by simpa using hb
          subst q; exact ⟨fi.2.2.2.1, fi.2.1, fi.2.2.2.2.1, fi.2.2.2.2.2⟩
      · intro b o _ _ hb h1 _
        exact keep2 b o (fun q => hb (by simp [q])) (fun q => hb (by simp [q])) h1
      · intro b o _ _ hb h1 _
        exact ⟨o.slots, keep2 b o (fun q => hb (by simp [q])) (fun q => hb (by simp [q])) h1⟩
      · intro b o hb h1 h3
        rw [upd_ne (Nat.ne_of_lt (Heap.lt_size h1))]; exact h3
      · intro b o hb h1
        exact ⟨o, keep2 b o (fun q => hb (by simp [q])) (fun q => hb (by simp [q])) h1⟩
      · intro b xs' hb; rw [upd_ne (ne_of_none hb hn)]; exact hb
      · intro b o u' hb; rw [upd_ne (ne_of_none hb hn)]; exact hb
      · intro b ps hb; refine ⟨#[], ?_⟩; rw [upd_ne (ne_of_none hb hn)]; simpa using hb
      · intro m hm
        exact hm.at' fun o e' => keep2 _ o (Ne.symm fe.2.1) (Ne.symm fi.2.1) e'
    refine ⟨.ref s.heap.objs.size, _, I2, rfl, ⟨_, x, rfl, hn, rfl, fun ys hy => by rw [I.list_inj hy hq]; exact hx⟩, ⟨⟨u, ?_⟩, hit'.at fun o y => (hs2.2 it hne.symm).trans y⟩, fun b hb => ?_⟩
    · have z := he2
      simpa using z
    · rw [upd_ne]
      · exact (hf b hb).1
      · rcases List.mem_cons.mp hb with q | hb
        · subst q; exact Nat.ne_of_lt hel
        · have q : b = it := by simpa using hb
          subst q
          obtain ⟨o, ho', _⟩ := hit
          exact Nat.ne_of_lt (Heap.lt_size ho')
  done := by
    intro X hP hw hK hc i pins s σ H E I hf st hg
    subst hP hw hK
    obtain ⟨xs, hq, hx⟩ := hg
    obtain ⟨its, rv, p, hz⟩ := I.list hq
    obtain ⟨⟨old, he⟩, hit⟩ := st
    obtain ⟨f0, f1, f2, f3, f4, f5⟩ := hf it (by simp)
    have hl := rv.length
    exact wpAny_pyNext_enum_end (I.ok.hd hc) he hit p.isList (by simp; omega) fun h' eb => ⟨rfl, I.turned (t' := s.toks) (fun b o hb e => eb b o hb e) f0 f1 f3 f4 f5⟩
  self := fun _ _ _ _ _ st h => by
    obtain ⟨⟨old, he⟩, _⟩ := st
    exact wpAny_pyIter_enum he h
section
variable {X : Cx}
def iEnum (K : PySem.W.Frag) (ta : TA) : TI := fun σ H R => ta σ H fun vs H1 => ∃ a, vs = [.ref a] ∧ (∃ xs, SqL K H1 a xs) ∧ R (Ite K a) H1
theorem pi_enum {es : List Expr} {k : Nat} {tp : Pos} {a : Expr} {ta : TA} {p pos : Pos} (hg : Gl X "enumerate") (hm : X.mg "enumerate" = none) (ha : PA X [a] ta) (hs : starEach [a] X.env = [(false, eval a X.env)] := by rfl) :
    PI X (.Tuple es k tp) (.Call (.Name "enumerate" p) [a] [] pos) (iEnum X.K ta) := by
  intro pins s σ H R I h
  refine Call_ (ld_blt I hg hm boot_enumerate (PyProof.Rows.callWith_type1 (thn (ha pos pins s σ H _ I h) fun us s1 ⟨vs, H1, I1, r1, q1⟩ => ?_) hs rfl))
  obtain ⟨a', e, ⟨xs, hq⟩, q⟩ := q1
  subst e
  cases r1 with
  | cons r rr =>
    cases rr
    cases r
    obtain ⟨its, rv, p, hz⟩ := I1.list hq
    refine call_enumerate_list p.isList fun h' he hi hsz hk => ?_
    refine wpAny_pyIter_enum (s := { s1 with heap := h' }) he ?_
    have I2 : Inv X pins σ H1 { s1 with heap := h' } := I1.kept (t' := s1.toks) hk
    refine ⟨s1.heap.objs.size + 1, [s1.heap.objs.size + 1, s1.heap.objs.size], _, _, H1, rfl, I2, turn_enum a' _ _ (Nat.succ_ne_self _), ⟨⟨_, he⟩, hi⟩, fun b hb => ?_, q⟩
    rcases List.mem_cons.mp hb with e | hb
    · subst e; exact I1.fpOk (Nat.le_succ _) (I1.hok.fresh (Nat.le_succ _))
    · have e : b = s1.heap.objs.size := by simpa using hb
      subst e; exact I1.fpOk (Nat.le_refl _) (I1.hok.fresh (Nat.le_refl _))
end
theorem for_enum {K : PySem.W.Frag} {a : Addr} {xs : List V} {g : TG} {tb : TS} {D : Ends} {σ : St} {H : Hp} (Pv : Nat → St → Hp → Prop) (h0 : Pv 0 σ H) (hl : ∀ i σ H, i ≤ xs.length → Pv i σ H → SqL K H a xs)
    (hs : ∀ i x p σ H, xs[i]? = some x → Pv i σ H → H p = none → g (.ref p) σ (upd H p (.tup [.int (i : Nat), x])) fun σ2 H2 => tb { D with nx := Pv (i + 1), ct := Pv (i + 1), bk := D.nx } σ2 H2) (hd : ∀ σ H, Pv xs.length σ H → D.nx σ H) :
    ∃ W : Nat → Nat → St → Hp → Prop, (∃ m, W 0 m σ H) ∧ ∀ i m σ H, W i m σ H →
      ((Ite K a).stop i H ∧ D.nx σ H) ∨ ((Ite K a).go i H ∧ ∃ N : St → Hp → Prop, (∀ σ' H', N σ' H' → ∃ m', m' < m ∧ W (i + 1) m' σ' H') ∧ ∀ x H', (Ite K a).yld i H x H' → g x σ H' fun σ2 H2 => tb { D with nx := N, ct := N, bk := D.nx } σ2 H2) := by
  refine ⟨fun i m σ H => m = xs.length - i ∧ i ≤ xs.length ∧ Pv i σ H, ⟨xs.length, by simp, Nat.zero_le _, h0⟩, ?_⟩
  rintro i m σ H ⟨rfl, hi, p⟩
  have q := hl i σ H hi p
  by_cases hlt : i < xs.length
  · refine .inr ⟨⟨xs, xs[i], q, by simp [hlt]⟩, Pv (i + 1), fun σ' H' p' => ⟨xs.length - (i + 1), by omega, rfl, hlt, p'⟩, fun x H' y => ?_⟩
    obtain ⟨t, v, e, ht, e', y⟩ := y
    subst e e'
    exact hs i v t σ _ (y xs q) p ht
  · have e : i = xs.length := by omega
    subst e
    exact .inl ⟨⟨xs, q, Nat.le_refl _⟩, hd σ H p⟩

/-! ### isinstance as a call -/
section
variable {X : Cx} {pins : List (Addr × Obj)} {σ : St} {H : Hp} {s : Shared}
theorem TyOf.kit {x : V} {u t : Value} (I : Inv X pins σ H s) (rx : RelV x u) (ty : TyOf X.K H x t) :
    ∃ Hh, PySem.W.KitX X.K u t Hh ∧ Hh s.heap ∧ u ≠ .builtin "__main__.__loader__#opaque" := by
  cases ty with
  | non => cases (show u = Value.none from rx); exact ⟨_, PySem.W.kitx_none, True.intro, fun z => nomatch z⟩
  | bl y => cases (show u = Value.bool y from rx); exact ⟨_, PySem.W.kitx_bool, True.intro, fun z => nomatch z⟩
  | int i => obtain ⟨t, q⟩ := (show ∃ t, u = Value.int i t from rx); cases q; exact ⟨_, PySem.W.kitx_int, True.intro, fun z => nomatch z⟩
  | str y => obtain ⟨t, q⟩ := (show ∃ t, u = Value.str y t from rx); cases q; exact ⟨_, PySem.W.kitx_str, True.intro, fun z => nomatch z⟩
  | flt y => obtain ⟨t, q⟩ := (show ∃ t, u = Value.float y t from rx); cases q; exact ⟨_, PySem.W.kitx_float, True.intro, fun z => nomatch z⟩
  | @lst a xs ea =>
    cases (show u = Value.ref a from rx)
    obtain ⟨_, _, n, _, h1⟩ := (show ObjOk X.prog X.w H s.heap a (.lst xs) from I.hok a _ ea)
    exact ⟨_, PySem.W.kitx_list, ⟨_, h1, rfl⟩, fun z => nomatch z⟩
  | @frz a ob xs ea =>
    cases (show u = Value.ref a from rx)
    obtain ⟨_, _, _, n, _, h1⟩ := (show ObjOk X.prog X.w H s.heap a (.frz ob (.lst xs)) from I.hok a _ ea)
    exact ⟨_, PySem.W.kitx_list, ⟨_, h1, rfl⟩, fun z => nomatch z⟩
  | @tup a xs ea =>
    cases (show u = Value.ref a from rx)
    obtain ⟨_, _, _, p⟩ := (show ObjOk X.prog X.w H s.heap a (.tup xs) from I.hok a _ ea)
    obtain ⟨o, h1, h2, _⟩ := p
    exact ⟨_, PySem.W.kitx_tuple, ⟨o, h1, h2⟩, fun z => nomatch z⟩
  | @dK a kvs ea =>
    cases (show u = Value.ref a from rx)
    obtain ⟨_, _, vs, _, p⟩ := (show ObjOk X.prog X.w H s.heap a (.dK kvs) from I.hok a _ ea)
    obtain ⟨o, es, ep, h1, h2, _⟩ := p
    exact ⟨_, PySem.W.kitx_dict, ⟨o, h1, h2.1⟩, fun z => nomatch z⟩
  | @dT a kvs ea =>
    cases (show u = Value.ref a from rx)
    obtain ⟨_, _, xs, _, o, es, ep, h1, h2, _⟩ := (show ObjOk X.prog X.w H s.heap a (.dT kvs) from I.hok a _ ea)
    exact ⟨_, PySem.W.kitx_dict, ⟨o, h1, h2.1⟩, fun z => nomatch z⟩
  | @ins a C dx fs ea cl ha hn htk hm =>
    cases (show u = Value.ref a from rx)
    obtain ⟨mA, O, _⟩ := ins_get I.hok ea
    obtain ⟨od, J, _⟩ := O.look
    exact ⟨_, PySem.W.kitx_own (cl.get _) cl.hd ha hn htk hm, J, fun z => nomatch z⟩
/-- isinstance(x, T), T a built-in type -/
def rIsi (K : PySem.W.Frag) : List V → Hp → VK → Prop := fun xs H Q => ∃ x t n b, xs = [x, .ty n] ∧ TyOf K H x t ∧ PySem.W.kitOne K t (.type n) = some b ∧ Q (.bl b) H
theorem call_isi : CallR X (.builtin "isinstance") (rIsi X.K) := by
  intro pins s σ H xs us Q I r h
  obtain ⟨x, t, n, b, rfl, ty, e, q⟩ := h
  obtain ⟨u, w', rfl, rx, rn⟩ := vals2 r
  cases rn
  obtain ⟨Hh, Z, z, ne⟩ := ty.kit I rx
  exact PySem.W.kia_one Z I.kIn z e ne fun tk => ⟨.bl b, H, I.tok tk, rfl, q⟩
end
section
variable {K : PySem.W.Frag}
theorem kit_ii : PySem.W.kitOne K (.type "int") (.type "int") = some true := by kernel_rfl
theorem kit_ib : PySem.W.kitOne K (.type "int") (.type "bool") = some false := by kernel_rfl
theorem kit_ll : PySem.W.kitOne K (.type "list") (.type "list") = some true := by kernel_rfl
theorem kit_tt : PySem.W.kitOne K (.type "tuple") (.type "tuple") = some true := by kernel_rfl
end

/-! ### xs != [] -/
section
variable {X : Cx}
end
end L2

namespace L2
open PySem PySem.Spec PyProof.Rows
/-! ### a list comprehension of one clause -/
theorem Un.off {fs ex : List Addr} {H H1 : Hp} {h h1 h' : Heap} {C : Addr} (u : Un fs ex H H1 h h1) (hC : h.objs.size ≤ C) (sb : Heap.SameBut C h1 h') : Un fs ex H H1 h h' := by
  have ne : ∀ b o, h.get? b = some o → b ≠ C := fun b o e => Nat.ne_of_lt (Nat.lt_of_lt_of_le (Heap.lt_size e) hC)
  refine ⟨?_, ?_, u.free, ?_, u.tups, u.frzs, u.tbls⟩
  · intro b o e n f x
    exact (sb.2 b (ne b o e)).trans (u.keep b o e n f x)
  · intro b o e n f x
    obtain ⟨sl, z⟩ := u.slot b o e n f x
    exact ⟨sl, (sb.2 b (ne b o e)).trans z⟩
  · intro b o e x
    obtain ⟨o', z⟩ := u.there b o e x
    exact ⟨o', (sb.2 b (ne b o e)).trans z⟩
theorem HOk.off {P : Program} {w : World} {H : Hp} {h h' : Heap} {C : Addr} (x : HOk P w H h) (n : H C = none) (sb : Heap.SameBut C h h') : HOk P w H h' := fun a o e =>
  (x a o e).stay (fun b u hb q => by
    have nb : b ≠ C := by
      rcases hb with z | z
      · rw [z]; exact ne_of_none e n
      · exact ne_of_none z n
    exact (sb.2 b nb).trans q) (fun _ z => z) fun _ _ z => z
/-- the context of the block -/
def cxLc (X : Cx) (scope : Scope) (N : List Str) (cl : List (Str × Addr)) (s : Shared) (H : Hp) (pins : List (Addr × Obj)) (fp : List Addr) : Cx where
  prog := X.prog
  w := X.w
  K := X.K
  mg := X.mg
  base := X.base
  A := X.A
  N := N
  s₀ := s
  H₀ := H
  env := compEnvC scope cl s.heap.objs.size X.env
  outer := X.stack
  stack := X.stack
  ex := fp
  fn := fun _ => false
  calm := X.calm
  pn := X.pn ++ pins
  xe := X.xe
/-- the block's names at its start: own ones, then names of the def -/
def lcStart (own : Nat) (fr : List Nat) (σ : St) : St := List.replicate own none ++ fr.map fun k => (σ[k]?).join
structure LcFree (X : Cx) (scope : Scope) (cl : List (Str × Addr)) (N : List Str) (own : Nat) (fr : List Nat) : Prop where
  len : N.length = own + fr.length
  at_ : ∀ (j k : Nat), fr[j]? = some k → ∃ x, N[own + j]? = some x ∧ X.N[k]? = some x ∧ Vis X.env.scope x ∧ X.env.kindOf x ≠ some .local ∧ (∀ c, X.env.cells.lookup x = some c → cl.lookup x = some c) ∧
    ((relabel scope X.env).names.lookup x = some .cell ∨ (relabel scope X.env).names.lookup x = some .free)
  clo : ∀ x c, cl.lookup x = some c → X.env.cells.lookup x = some c
  has : ∀ x, ((relabel scope X.env).names.lookup x = some .cell ∨ (relabel scope X.env).names.lookup x = some .free) → ∃ c, cl.lookup x = some c
theorem lookup_mem {α : Type} {x : Str} {k : α} : ∀ {l : List (Str × α)}, l.lookup x = some k → (x, k) ∈ l
  | [], h => by cases h
  | (y, j) :: r, h => by
    rw [List.lookup_cons] at h
    cases e : x == y with
    | true =>
      rw [e] at h
      cases h
      rw [eq_of_beq e]
      exact List.mem_cons_self
    | false =>
      rw [e] at h
      exact List.mem_cons_of_mem _ (lookup_mem h)
theorem LcFree.nil {X : Cx} {scope : Scope} {N : List Str} {own : Nat} (L : List (Str × NameKind)) (hL : (relabel scope X.env).names = L) (hN : N.length = own) (h : ∀ y ∈ L, y.2 ≠ .cell ∧ y.2 ≠ .free) : LcFree X scope [] N own [] where
  len := hN
  at_ := fun j k e => by simp at e
  clo := fun x c e => by simp at e
  has := fun x e => by
    rw [hL] at e
    rcases e with e | e
    · exact absurd rfl (h _ (lookup_mem e)).1
    · exact absurd rfl (h _ (lookup_mem e)).2
theorem lc_loop {prog : Program} {w : World} {A : Around} {R : Result → Shared → Prop} {s : Shared} {elt tg iter : Expr} {scope : Scope} {pos : Pos} {it acc : Value} {env : Env} (J : Nat → Shared → Prop)
    (turn : ∀ n s, J n s → wpAny (model prog w) A (pyNext it) (fun r s1 => match r with
      | none => R (.ok .next) s1
      | some v => wpAny (model prog w) A (letOwnedTupleGo tg it v) (fun _ s2 => wpAny (model prog w) A (assign tg env v) (fun _ s3 => wpAny (model prog w) A (eval elt env) (fun x s4 =>
          wpAny (model prog w) A (call (.builtin "list.append") [acc, x]) (fun _ s5 => ∃ m, m < n ∧ J m s5) (fun _ _ => False) s4) (fun _ _ => False) s3) (fun _ _ => False) s2) (fun _ _ => False) s1) (fun _ _ => False) s)
    (n : Nat) (h : J n s) : codeAny (model prog w) A (.compLoop (.ListComp elt [⟨tg, iter, [], 0⟩] scope pos) 0 it acc env) R s := by
  refine codeAny_loop rfl J (fun n s hI => ?_) n h
  show wpAny _ A ((compTurn (.ListComp elt [⟨tg, iter, [], 0⟩] scope pos) 0 it acc env).onRaise (fun x => do noteFrame x env; theTreesLotGoes x)) _ _ s
  refine wpAny_noted ?_
  rw [compTurn_list1]
  refine wpAny_bind (wpAny_standAt (wpAny_bind (wpAny_mono (turn n s hI) (fun r s1 h1 => ?_) fun _ _ z => z.elim)))
  cases r with
  | none => exact wpAny_pure h1
  | some v =>
    refine wpAny_bind (wpAny_mono h1 (fun _ s2 h2 => wpAny_bind (wpAny_mono h2 (fun _ s3 h3 => wpAny_bind (wpAny_bind (wpAny_mono h3 (fun x s4 h4 => wpAny_bind (wpAny_mono h4
      (fun _ s5 h5 => wpAny_pure (wpAny_pure ⟨rfl, h5⟩)) fun _ _ z => z.elim)) fun _ _ z => z.elim))) fun _ _ z => z.elim)) fun _ _ z => z.elim)
section
variable {X : Cx} {elt tg iter : Expr} {scope : Scope} {pos : Pos} {wi : TI} {g : TG} {te : TE} {N : List Str} {own : Nat} {fr : List Nat} {cl : List (Str × Addr)}
/-- the reading: D is the new list; W the word by the turn and a measure, over the block's names -/
def tLc (wi : TI) (g : TG) (te : TE) (own : Nat) (fr : List Nat) : TE := fun σ H Q => wi σ H fun J H1 => ∀ D, H1 D = none → ∃ W : Nat → Nat → St → Hp → Prop, (∃ m, W 0 m (lcStart own fr σ) (upd H1 D (.lst []))) ∧ ∀ i m σ' H', W i m σ' H' →
  (J.stop i H' ∧ Q (.ref D) H') ∨ (J.go i H' ∧ ∀ x H2, J.yld i H' x H2 → g x σ' H2 fun σ3 H3 => te σ3 H3 fun y H4 => ∃ ys, H4 D = some (.lst ys) ∧ ys.length < sizeLine ∧ ∃ m', m' < m ∧ W (i + 1) m' σ3 (upd H4 D (.lst (ys ++ [y]))))
/-- what the block comes to: the comprehension's own objects apart -/
theorem lc_block (hx : X.xe = fun _ _ => False) (hc : X.calm = true) (F : LcFree X scope cl N own fr) (hk : scope.kind = .function) (hcell : ∀ y ∈ scope.names, y.2 ≠ .cell)
    (hg : ∀ s H pins fp, PG (cxLc X scope N cl s H pins fp) tg g) (he : ∀ s H pins fp, PE (cxLc X scope N cl s H pins fp) elt te)
    {pins : List (Addr × Obj)} {σ : St} {Q : VK} {s2 : Shared} {itv : Value} {RR : Value → Addr → Result → Shared → Prop} {E : Value → Shared → Prop}
    (h : PIE X pins σ tg (fun J H1 => ∀ D, H1 D = none → ∃ W : Nat → Nat → St → Hp → Prop, (∃ m, W 0 m (lcStart own fr σ) (upd H1 D (.lst []))) ∧ ∀ i m σ' H', W i m σ' H' →
      (J.stop i H' ∧ Q (.ref D) H') ∨ (J.go i H' ∧ ∀ x H2, J.yld i H' x H2 → g x σ' H2 fun σ3 H3 => te σ3 H3 fun y H4 => ∃ ys, H4 D = some (.lst ys) ∧ ys.length < sizeLine ∧ ∃ m', m' < m ∧ W (i + 1) m' σ3 (upd H4 D (.lst (ys ++ [y]))))) itv s2)
    (hRR : ∀ (D C : Addr) (H' : Hp) (s' : Shared), Q (.ref D) H' → (∃ m, s'.heap.Ns C m) → H' C = none → C ≠ X.env.locals → (∀ x c, X.env.cells.lookup x = some c → c ≠ C) → (∀ p ∈ X.pn ++ pins, p.1 ≠ C) → X.s₀.heap.objs.size ≤ C →
      (∀ h', Heap.SameBut C s'.heap h' → Inv X pins σ H' { s' with heap := h' }) → RR (.ref D) C (.ok .next) s') :
    wpAny (model X.prog X.w) X.A (newList []) (fun acc s3 => wpAny (model X.prog X.w) X.A (newFunctionEnv scope X.env.globals cl [] X.env.qual none .none (some X.env)) (fun cenv s4 =>
      codeAny (model X.prog X.w) X.A (.compStart (.ListComp elt [⟨tg, iter, [], 0⟩] scope pos) 0 itv acc { cenv with scope := relabel scope X.env }) (RR acc cenv.locals) s4) E s3) E s2 := by
  obtain ⟨it, fp, tn, J, H2, e, I2, T, st2, f2, q⟩ := h
  subst e
  obtain ⟨W, ⟨m0, w0⟩, turn⟩ := q s2.heap.objs.size I2.fresh
  have I3 := I2.lnew (ys := []) (its := []) (t' := s2.toks) .nil (Nat.zero_le _)
  refine wpAny_newList (items := []) ?_ (Nat.zero_le _)
  generalize hH3 : upd H2 s2.heap.objs.size (.lst []) = H3 at w0 I3
  generalize hs3 : ({ s2 with heap := s2.heap.push { cls := .type "list", data := .seq ([] : List Value).toArray }, toks := s2.toks } : Shared) = s3 at I3
  have fp2 : ∀ b ∈ fp, b < s2.heap.objs.size := fun b hb => by
    obtain ⟨o, eo, _⟩ := T.obj _ _ st2 b hb
    exact Heap.lt_size eo
  have size3 : s3.heap.objs.size = s2.heap.objs.size + 1 := by rw [← hs3]; exact Heap.size_push ..
  have old3 : ∀ b o, s2.heap.get? b = some o → s3.heap.get? b = some o := fun b o z => by rw [← hs3]; exact Heap.get?_push_of_some _ z
  have st3 : tn 0 s3.heap := T.keep _ _ _ st2 fun b _ o z => old3 b o z
  have f3 : ∀ b ∈ fp, FpOk X pins H3 b := fun b hb => ⟨by rw [← hH3, upd_ne (Nat.ne_of_lt (fp2 b hb))]; exact (f2 b hb).1, (f2 b hb).2⟩
  refine wpAny_newFunctionEnv hcell (by intro y hy; simp at hy) (fun h4 hns4 hsb4 => ?_) hk
  have hC4 : ∀ b o, s3.heap.get? b = some o → h4.get? b = some o := fun b o z => (hsb4.2 b (Nat.ne_of_lt (Heap.lt_size z))).trans (Heap.get?_push_of_some _ z)
  have above : X.s₀.heap.objs.size ≤ s3.heap.objs.size := I3.sz
  have hok' : (cxLc X scope N cl s3 H3 pins fp).Ok := by
    refine ⟨I3.ok.mod, hk, I3.ok.glob, I3.ok.blt, Nat.le_refl _, ?_, ?_, ?_, I3.ok.hd, I3.ok.frames, .inl rfl, ?_, I3.bs, Nat.le_trans I3.ok.bsz I3.sz, ?_, ?_, I3.stack, I3.stkFree⟩
    · intro x y c a b
      exact I3.ok.inj x y c (F.clo x c a) (F.clo y c b)
    · intro x z
      exact F.has x z
    · intro x c z
      cases z
    · intro b hb
      refine ⟨Nat.ne_of_lt (show b < s3.heap.objs.size by rw [size3]; exact Nat.lt_succ_of_lt (fp2 b hb)), fun x c z => (f3 b hb).2.2.2.2.1 x c (F.clo x c z)⟩
    · intro b o z hb
      rcases (f3 b hb).2.2.2.1 with q | q
      · exact I3.ok.noex b o z q
      · exact absurd (Nat.lt_of_lt_of_le (Heap.lt_size z) I3.ok.bsz) (Nat.not_lt.mpr q)
    · intro b hb hf
      rcases List.mem_cons.mp (I3.stkSub b hf) with q | q
      · exact (f3 b hb).2.1 q
      · exact (f3 b hb).2.2.1 q
  have I4 : Inv (cxLc X scope N cl s3 H3 pins fp) [] (lcStart own fr σ) H3 { s3 with heap := h4, toks := s3.toks + ([] : List (Str × Value)).length } := by
    obtain ⟨m, nm, lk⟩ := I3.loc
    refine ⟨hok', rfl, I3.bare, Un.kept hC4, ⟨_, hns4, ?_⟩, ?_, I3.hok.fresh (Nat.le_refl _), ?_, ?_, I3.hok.kept hC4, ?_⟩
    · intro i x v hi hv _
      have hge : ¬ i < own := fun z => by
        unfold lcStart at hv
        rw [List.getElem?_append_left (by rw [List.length_replicate]; exact z), List.getElem?_replicate, if_pos z] at hv
        cases hv
      have hv' : (fr.map fun k => (σ[k]?).join)[i - own]? = some (some v) := by
        unfold lcStart at hv
        rw [List.getElem?_append_right (by rw [List.length_replicate]; omega), List.length_replicate] at hv
        exact hv
      rw [List.getElem?_map] at hv'
      cases ef : fr[i - own]? with
      | none => rw [ef] at hv'; cases hv'
      | some k =>
        rw [ef] at hv'
        have hσ : σ[k]? = some (some v) := by
          have z : (σ[k]?).join = some v := Option.some.inj hv'
          cases eσ : σ[k]? with
          | none => rw [eσ] at z; cases z
          | some y => rw [eσ] at z; exact congrArg some z
        obtain ⟨x', hx1, hx2, hx3, hx4, hx5, hx6⟩ := F.at_ _ _ ef
        have ex : x' = x := by
          rw [show own + (i - own) = i by omega] at hx1
          exact Option.some.inj (hx1.symm.trans hi)
        subst ex
        obtain ⟨u, ru, lu⟩ := lk k x' v hx2 hσ hx3
        refine ⟨u, ru, .inr ⟨hx6, ?_⟩⟩
        rcases lu with ⟨z, _⟩ | ⟨_, c, zc, zi⟩
        · exact absurd z hx4
        · obtain ⟨o, zo, zr⟩ := zi
          exact ⟨c, hx5 c zc, o, hC4 _ _ zo, zr⟩
    · intro x c z
      obtain ⟨v, o, zo, zr⟩ := I3.cell x c (F.clo x c z)
      exact ⟨v, o, hC4 _ _ zo, zr⟩
    · intro x c z
      exact I3.freeC x c (F.clo x c z)
    · intro p hp
      rw [List.append_nil] at hp
      obtain ⟨p1, p2, p3, p4, p5⟩ := I3.pin p hp
      refine ⟨hC4 _ _ p1, p2, Nat.ne_of_lt (Heap.lt_size p1), fun z => ?_, p5⟩
      rcases List.mem_cons.mp (I3.stkSub _ z) with q | q
      · exact p3 q
      · exact p4 q
    · show (lcStart own fr σ).length = N.length
      rw [F.len]
      simp [lcStart]
  have f4 : ∀ {H' : Hp}, (∀ b ∈ fp, H' b = none) → ∀ b ∈ fp, FpOk (cxLc X scope N cl s3 H3 pins fp) [] H' b := fun hn b hb =>
    ⟨hn b hb, (hok'.exf b hb).1, hok'.exfs b hb, .inl hb, (hok'.exf b hb).2, fun p hp => (f3 b hb).2.2.2.2.2 p (by rw [List.append_nil] at hp; exact hp)⟩
  have loop : ∀ s5 : Shared, s5 = { s3 with heap := h4, toks := s3.toks + ([] : List (Str × Value)).length } →
      codeAny (model X.prog X.w) X.A (.compLoop (.ListComp elt [⟨tg, iter, [], 0⟩] scope pos) 0 (.ref it) (.ref s2.heap.objs.size) (compEnvC scope cl s3.heap.objs.size X.env)) (RR (.ref s2.heap.objs.size) s3.heap.objs.size) s5 := by
    rintro s5 rfl
    refine lc_loop (fun n s' => ∃ i σ' H', Inv (cxLc X scope N cl s3 H3 pins fp) [] σ' H' s' ∧ tn i s'.heap ∧ (∀ b ∈ fp, H' b = none) ∧ W i n σ' H') ?_ m0
      ⟨0, _, H3, I4, T.keep _ _ _ st3 fun b _ o z => hC4 b o z, fun b hb => (f3 b hb).1, w0⟩
    rintro n s' ⟨i, σ', H', I', st', fr', w'⟩
    rcases turn i n σ' H' w' with ⟨stop, qn⟩ | ⟨go, step⟩
    · refine thn (T.done (cxLc X scope N cl s3 H3 pins fp) rfl rfl rfl hc i [] s' σ' H' _ I' (f4 fr') st' stop) fun r s6 ⟨hr, I6⟩ => ?_
      subst hr
      refine hRR _ _ H' s6 qn ?_ I6.free ?_ ?_ ?_ above ?_
      · obtain ⟨m, nm, _⟩ := I6.loc
        exact ⟨m, nm⟩
      · exact Ne.symm (Nat.ne_of_lt I3.lt)
      · intro x c z
        obtain ⟨v, o, zo, _⟩ := I3.cell x c z
        exact Nat.ne_of_lt (Heap.lt_size zo)
      · intro p hp
        exact Nat.ne_of_lt (Heap.lt_size (I3.pin p hp).1)
      · intro h' sb
        have u : Un (frs X.stack) fp H3 H' s3.heap s6.heap := I6.base
        exact I3.call' (s' := { s6 with heap := h' }) (ch := fp) I6.os (u.off (Nat.le_refl _) sb) (I6.hok.off I6.free sb) I6.bare fun b hb => ⟨(f3 b hb).2.2.2.1, (f3 b hb).2.1, (f3 b hb).2.2.2.2.1, (f3 b hb).2.2.2.2.2⟩
    · refine thn (T.item (cxLc X scope N cl s3 H3 pins fp) rfl rfl rfl hc i [] s' σ' H' _ I' (f4 fr') st' go) fun r s6 ⟨u, hr, h6⟩ => ?_
      subst hr
      refine thn h6 fun _ s7 ⟨x, H7, I7, r7, y7, st7, fr7⟩ => ?_
      have I7' := I7.pinned (f4 fr7) (T.obj _ _ st7)
      have gg := hg s3 H3 pins fp _ s7 σ' H7 x u _ I7' r7 (step x H7 y7)
      rw [show (cxLc X scope N cl s3 H3 pins fp).xe = fun _ _ => False from hx] at gg
      refine thn gg fun _ s8 ⟨σ8, H8, I8, q8⟩ => ?_
      have ee := he s3 H3 pins fp _ s8 σ8 H8 _ I8 q8
      rw [show (cxLc X scope N cl s3 H3 pins fp).xe = fun _ _ => False from hx] at ee
      refine thn ee fun uy s9 ⟨y, H9, I9, r9, ys, e9, l9, m', hm, w9⟩ => ?_
      have aa := mt_append (X := cxLc X scope N cl s3 H3 pins fp) _ s9 σ8 H9 (.ref s2.heap.objs.size) [y] (.ref s2.heap.objs.size) [uy] (fun _ Hz => Hz = upd H9 s2.heap.objs.size (.lst (ys ++ [y]))) I9 rfl (.cons r9 .nil) ⟨_, ys, y, rfl, rfl, e9, l9, rfl⟩
      rw [show (cxLc X scope N cl s3 H3 pins fp).xe = fun _ _ => False from hx] at aa
      refine thn aa fun _ s10 ⟨v, H10, I10, _, e10⟩ => ?_
      subst e10
      refine ⟨m', hm, i + 1, σ8, _, I10.unpinned (pins := []), ?_, ?_, w9⟩
      · exact T.keep _ _ _ st7 fun b hb o z => (I10.pin (b, o) (List.mem_append_right _ (List.mem_append_right _ (mem_pinsAt hb z)))).1
      · intro b hb
        obtain ⟨o, z, d⟩ := T.obj _ _ st7 b hb
        exact (I10.pin (b, o) (List.mem_append_right _ (List.mem_append_right _ (mem_pinsAt hb z)))).2.1
  exact codeAny_compStart_list (loop _ rfl) (T.self _ 0 _ _ _ (T.keep _ _ _ st3 fun b _ o z => hC4 b o z) (loop _ rfl))
theorem pe_lc (hx : X.xe = fun _ _ => False) (hc : X.calm = true) (hi : PI X tg iter wi) (hclos : closureFor scope X.env = pure cl) (F : LcFree X scope cl N own fr) (hk : scope.kind = .function) (hcell : ∀ y ∈ scope.names, y.2 ≠ .cell)
    (hnm : ∀ y ∈ scope.names, y.2 = .local → scope.names.lookup y.1 = some .local) (hg : ∀ s H pins fp, PG (cxLc X scope N cl s H pins fp) tg g) (he : ∀ s H pins fp, PE (cxLc X scope N cl s H pins fp) elt te)
    (hs : ∀ x, foldedSetIterable iter X.env x = pure x := by intro _; rfl) : PE X (.ListComp elt [⟨tg, iter, [], 0⟩] scope pos) (tLc wi g te own fr) := by
  intro pins s σ H Q I h
  rw [eval_ListComp]
  refine wpAny_comprehension_free (use := none) rfl hs hclos hk hnm ?_
  refine thn (hi pins s σ H _ I h) fun v s1 h1 => thn h1 fun itv s2 h2 => ?_
  refine lc_block (RR := fun acc C => compPost (model X.prog X.w) X.A X.xe none (EP X pins σ Q) acc C) hx hc F hk hcell hg he h2 ?_
  intro D C H' s' q hm _ _ _ _ _ back
  obtain ⟨m, nm⟩ := hm
  exact ⟨m, nm, fun h' sb => ⟨.ref D, H', back h' sb, rfl, q⟩⟩
end
/-! ### rules that name the written part: for a block, whose reading may not hang on its context -/
theorem ix_tupK {X : Cx} {K : PySem.W.Frag} (hK : X.K = K) : IxR X (rIxT K) := hK ▸ ix_tup
end L2

namespace L2
open PySem PySem.Spec PyProof.Rows
/-! ### what lies at a value, as plain data, for == and != -/
def DtV (P : Program) (w : World) (H : Hp) (x : V) (d : PyData) : Prop := ∀ h, HOk P w H h → ∀ u, RelV x u → ∃ as, Reads h u d as
section
variable {P : Program} {w : World} {H H' : Hp}
theorem DtV.int (i : Int) : DtV P w H (.int i) (.int i) := fun h _ u r => by
  obtain ⟨t, rfl⟩ := r
  exact ⟨_, Reads.int i t⟩
theorem DtV.all {h : Heap} (ok : HOk P w H h) : ∀ {xs : List V} {ds : List PyData} {us : List Value}, Paired (DtV P w H) xs ds → Vals xs us → ∃ as, ReadsAll h us ds as
  | _, _, _, .nil, .nil => ⟨_, ReadsAll.nil⟩
  | _, _, _, .cons p q, .cons r t => by
    obtain ⟨as, a⟩ := p h ok _ r
    obtain ⟨bs, b⟩ := DtV.all ok q t
    exact ⟨_, ReadsAll.cons a b⟩
theorem DtV.lst {a : Addr} {xs : List V} {ds : List PyData} (e : H a = some (.lst xs)) (p : Paired (DtV P w H) xs ds) : DtV P w H (.ref a) (.list ds) := fun h ok u r => by
  cases r
  obtain ⟨_, its, n, v, g⟩ := (show ObjOk P w H h a (.lst xs) from ok a _ e)
  obtain ⟨as, z⟩ := DtV.all ok p v
  exact ⟨_, Reads.list g rfl rfl z⟩
theorem DtV.tup {a : Addr} {xs : List V} {ds : List PyData} (e : H a = some (.tup xs)) (p : Paired (DtV P w H) xs ds) : DtV P w H (.ref a) (.tuple ds) := fun h ok u r => by
  cases r
  obtain ⟨_, its, v, o, g, gc, n, gd⟩ := (show ObjOk P w H h a (.tup xs) from ok a _ e)
  obtain ⟨as, z⟩ := DtV.all ok p v
  exact ⟨_, Reads.tuple g gc gd z⟩
end
theorem shaped_flat {l : List PyData} (h1 : PyData.canLayAll0 l = true) (h2 : PyData.depthAll l ≤ 60) : SeqAt.shaped (.list l) = true := by
  show (PyData.canLay0 (.list l) && decide (PyData.depth (.list l) ≤ 64)) = true
  rw [Bool.and_eq_true]
  exact ⟨by simp only [PyData.canLay0]; exact h1, decide_eq_true (by simp only [PyData.depth]; omega)⟩
section
variable {X : Cx}
def rEqD (P : Program) (w : World) : R2 := fun x y H Q => ∃ da db, DtV P w H x da ∧ DtV P w H y db ∧ SeqAt.shaped da = true ∧ SeqAt.shaped db = true ∧ Q (.bl (PyData.eqv da db)) H
theorem op_eqD (hu : X.A.units + 64 < cLine) : OpR X (compareOp .Eq) (rEqD X.prog X.w) := by
  intro pins s σ H x y v u Q I rx ry h
  obtain ⟨da, db, xa, xb, sa, sb, q⟩ := h
  obtain ⟨as, ra⟩ := xa _ I.hok _ rx
  obtain ⟨bs, rb⟩ := xb _ I.hok _ ry
  exact eq_dataH ra rb sa sb hu ⟨.bl _, H, I, rfl, q⟩
/-! ### sorted of a list of ints -/
end
/-! ### reversed(xs) in a for -/
section
variable {X : Cx} {tg : Expr}
end
/-! ### a comprehension, by a word over the turns -/
/-- behind a turn: the list grown by one, and the word -/
abbrev LcEnd (Pv : Nat → St → Hp → Prop) (D : Addr) (n i : Nat) (σ : St) (y : V) (H : Hp) : Prop := ∃ ys, H D = some (.lst ys) ∧ ys.length < sizeLine ∧ ∃ m', m' < n - i ∧ (m' = n - (i + 1) ∧ i + 1 ≤ n ∧ Pv (i + 1) σ (upd H D (.lst (ys ++ [y]))))
theorem LcEnd.mk {Pv : Nat → St → Hp → Prop} {D : Addr} {n i : Nat} {σ : St} {y : V} {H : Hp} {ys : List V} (h : H D = some (.lst ys)) (hz : ys.length < sizeLine) (hi : i < n) (p : Pv (i + 1) σ (upd H D (.lst (ys ++ [y])))) : LcEnd Pv D n i σ y H :=
  ⟨ys, h, hz, n - (i + 1), by omega, rfl, hi, p⟩
section
variable {g : TG} {te : TE} {own : Nat} {fr : List Nat} {σ : St} {H : Hp} {R : Hp → Prop} {D : Addr}
theorem lc_of {J : It} {n : Nat} (Pv : Nat → St → Hp → Prop) (h0 : Pv 0 (lcStart own fr σ) (upd H D (.lst []))) (hgo : ∀ i σ H, i < n → Pv i σ H → J.go i H)
    (hs : ∀ i x H2 σ H, i < n → Pv i σ H → J.yld i H x H2 → g x σ H2 fun σ3 H3 => te σ3 H3 fun y H4 => LcEnd Pv D n i σ3 y H4) (hd : ∀ σ H, Pv n σ H → J.stop n H ∧ R H) :
    ∃ W : Nat → Nat → St → Hp → Prop, (∃ m, W 0 m (lcStart own fr σ) (upd H D (.lst []))) ∧ ∀ i m σ' H', W i m σ' H' →
      (J.stop i H' ∧ R H') ∨ (J.go i H' ∧ ∀ x H2, J.yld i H' x H2 → g x σ' H2 fun σ3 H3 => te σ3 H3 fun y H4 => ∃ ys, H4 D = some (.lst ys) ∧ ys.length < sizeLine ∧ ∃ m', m' < m ∧ W (i + 1) m' σ3 (upd H4 D (.lst (ys ++ [y])))) := by
  refine ⟨fun i m σ H => m = n - i ∧ i ≤ n ∧ Pv i σ H, ⟨n, by simp, Nat.zero_le _, h0⟩, ?_⟩
  rintro i m σ' H' ⟨rfl, hi, p⟩
  by_cases hlt : i < n
  · exact .inr ⟨hgo i σ' H' hlt p, fun x H2 y => hs i x H2 σ' H' hlt p y⟩
  · have e : i = n := by omega
    subst e
    exact .inl (hd σ' H' p)
/-- over a list that stays -/
theorem lc_list {K : PySem.W.Frag} {a : Addr} {xs : List V} (Pv : Nat → St → Hp → Prop) (h0 : Pv 0 (lcStart own fr σ) (upd H D (.lst []))) (hl : ∀ i σ H, i ≤ xs.length → Pv i σ H → SqL K H a xs)
    (hs : ∀ i x σ H, xs[i]? = some x → Pv i σ H → g x σ H fun σ3 H3 => te σ3 H3 fun y H4 => LcEnd Pv D xs.length i σ3 y H4) (hd : ∀ σ H, Pv xs.length σ H → R H) :
    ∃ W : Nat → Nat → St → Hp → Prop, (∃ m, W 0 m (lcStart own fr σ) (upd H D (.lst []))) ∧ ∀ i m σ' H', W i m σ' H' →
      ((Itl K a).stop i H' ∧ R H') ∨ ((Itl K a).go i H' ∧ ∀ x H2, (Itl K a).yld i H' x H2 → g x σ' H2 fun σ3 H3 => te σ3 H3 fun y H4 => ∃ ys, H4 D = some (.lst ys) ∧ ys.length < sizeLine ∧ ∃ m', m' < m ∧ W (i + 1) m' σ3 (upd H4 D (.lst (ys ++ [y])))) := by
  refine lc_of (n := xs.length) Pv h0 (fun i σ H hi p => ⟨xs, xs[i], hl i σ H (Nat.le_of_lt hi) p, by simp [hi]⟩) (fun i x H2 σ H hi p y => ?_) (fun σ H p => ⟨⟨xs, hl _ σ H (Nat.le_refl _) p, Nat.le_refl _⟩, hd σ H p⟩)
  obtain ⟨e, y⟩ := y
  subst e
  exact hs i x σ _ (y xs (hl i σ _ (Nat.le_of_lt hi) p)) p
end
end L2

namespace HT
open PySem PyProof.Rows
section
open PySem.SeqAt
open PySem.AutoSeq1 (wpAny_loadPart')
open PySem.MeetsSeq PySem.MeetsSeq2 PySem.MeetsSeq3
end
section
variable {prog : Program} {w : World} {A : Around} {E : Value → Shared → Prop} {s : Shared}
end
end HT
namespace L2
open PySem PySem.Spec PyProof.Rows
theorem ObjOk.there {P : Program} {w : World} {H : Hp} {h : Heap} {a : Addr} {o : HO} (x : ObjOk P w H h a o) : ∃ ob, h.get? a = some ob := by
  cases o with
  | lst xs => obtain ⟨_, _, _, _, e⟩ := x; exact ⟨_, e⟩
  | tup xs => obtain ⟨_, _, _, _, e, _⟩ := x; exact ⟨_, e⟩
  | dK kvs => obtain ⟨_, _, _, _, o, _, _, e, _⟩ := x; exact ⟨_, e⟩
  | dT kvs => obtain ⟨_, _, _, _, o, _, _, e, _⟩ := x; exact ⟨_, e⟩
  | set S n => obtain ⟨o, _, _, _, e, _⟩ := x; exact ⟨_, e⟩
  | ins C dx fs => obtain ⟨_, _, _, e, _⟩ := x; exact ⟨_, e⟩
  | own y => exact x
  | xd fs => obtain ⟨_, ⟨_, _, _, e, _⟩, _⟩ := x; exact ⟨_, e⟩
  | rng lo hi => obtain ⟨_, _, _, e⟩ := x; exact ⟨_, e⟩
  | frz ob u => obtain ⟨e, _⟩ := x; exact ⟨_, e⟩
  | tbl ps => exact ⟨_, (show h.get? a = some _ from x)⟩
  | met f y => exact ⟨_, (show h.get? a = some _ from x)⟩
  | ext φ => obtain ⟨_, e, _⟩ := x; exact e
/-! ### sorted of a list of lists of ints, by the way its comparisons go -/
section
variable {X : Cx}
end
/-! ### range(a, b, -1), b below a or not -/
section
variable {X : Cx} {tg : Expr}
end
/-! ### x is False, x is True, of bools -/
end L2

namespace PN
open PySem L2
/-! ### tests -/
theorem iteD {c A B : Prop} [Decidable c] (hc : c) (h : A) : if decide c = true then A else B := by rw [if_pos (decide_eq_true hc)]; exact h
theorem iteDn {c A B : Prop} [Decidable c] (hc : ¬ c) (h : B) : if decide c = true then A else B := by rw [if_neg (by simpa using hc)]; exact h
theorem iteN {c A B : Prop} [Decidable c] (hc : ¬ c) (h : A) : if (!decide c) = true then A else B := by rw [if_pos (by simpa using hc)]; exact h

/-! ### a row behind posts -/
abbrev Post := Nat × Nat
theorem take_snoc {α : Type} {l : List α} {i : Nat} {x : α} (h : l[i]? = some x) : l.take (i + 1) = l.take i ++ [x] := by
  rw [List.take_add_one, h]
  rfl
/-- the posts are a net's of that width -/
def Net (w : Nat) (ps : List Post) : Prop := ∀ p ∈ ps, p.1 < p.2 ∧ p.2 < w
theorem Net.at {w : Nat} {ps : List Post} (h : Net w ps) {i : Nat} {p : Post} (e : ps[i]? = some p) : p.1 < p.2 ∧ p.2 < w := h p (List.mem_of_getElem? e)

/-! ### places -/
theorem at_ints {xs : List Int} {i : Nat} (h : i < xs.length) : atI (xs.map V.int) (i : Int) = some (.int (xs.getD i 0)) := by
  refine atI_nat ?_
  rw [List.getElem?_map, List.getD_eq_getElem?_getD, List.getElem?_eq_getElem h]
  rfl
theorem map_get {α β : Type} {f : α → β} {l : List α} {i : Nat} {y : β} (h : (l.map f)[i]? = some y) : ∃ x, l[i]? = some x ∧ y = f x := by
  rw [List.getElem?_map] at h
  cases e : l[i]? with
  | none => rw [e] at h; cases h
  | some x => rw [e] at h; exact ⟨x, rfl, (Option.some.inj h).symm⟩

/-! ### what lies in the heap -/
end PN
namespace L2
theorem Same.upd {H H' : Hp} {l : PySem.Addr} {o : HO} (s : Same H H') (n : H l = Option.none) : Same H (L2.upd H' l o) := fun b u e => by
  rw [upd_ne (ne_of_none e n)]
  exact s b u e
theorem Same.new {H : Hp} {l : PySem.Addr} {o : HO} (n : H l = Option.none) : Same H (L2.upd H l o) := (Same.refl H).upd n
end L2
namespace PN
open PySem L2
/-- tuples of two lanes -/
def Tups (H : Hp) (rs : List Addr) (ps : List Post) : Prop := rs.length = ps.length ∧ ∀ (i : Nat) r p, rs[i]? = some r → ps[i]? = some p → H r = some (.tup [.int (p.1 : Nat), .int (p.2 : Nat)])
theorem Tups.mono {H H' : Hp} {rs : List Addr} {ps : List Post} (h : Tups H rs ps) (s : Same H H') : Tups H' rs ps := ⟨h.1, fun i r p a b => s _ _ (h.2 i r p a b)⟩
theorem Tups.keep {H H' : Hp} {rs : List Addr} {ps : List Post} (h : Tups H rs ps) (s : ∀ b xs, H b = some (.tup xs) → H' b = some (.tup xs)) : Tups H' rs ps := ⟨h.1, fun i r p a b => s _ _ (h.2 i r p a b)⟩
theorem tup_keep {H : Hp} {l : Addr} {ys : List V} {o : HO} (e : H l = some (.lst ys)) : ∀ b xs, H b = some (.tup xs) → (L2.upd H l o) b = some (.tup xs) := fun b xs h => by
  rw [upd_ne (ne_of h e (by intro z; cases z))]
  exact h
theorem Tups.get {H : Hp} {rs : List Addr} {ps : List Post} (h : Tups H rs ps) {i : Nat} {r : Addr} (e : rs[i]? = some r) : ∃ p, ps[i]? = some p ∧ H r = some (.tup [.int (p.1 : Nat), .int (p.2 : Nat)]) := by
  have hi : i < ps.length := by rw [← h.1]; exact (List.getElem?_eq_some_iff.mp e).1
  exact ⟨ps[i], List.getElem?_eq_getElem hi, h.2 i r _ e (List.getElem?_eq_getElem hi)⟩
theorem Tups.snoc {H : Hp} {rs : List Addr} {ps : List Post} {r : Addr} {p : Post} (h : Tups H rs ps) (e : H r = some (.tup [.int (p.1 : Nat), .int (p.2 : Nat)])) : Tups H (rs ++ [r]) (ps ++ [p]) := by
  refine ⟨by rw [List.length_append, List.length_append, h.1]; rfl, fun i r' p' a b => ?_⟩
  rw [List.getElem?_append] at a b
  by_cases c : i < rs.length
  · rw [if_pos c] at a
    rw [if_pos (h.1 ▸ c)] at b
    exact h.2 i r' p' a b
  · rw [if_neg c] at a
    rw [if_neg (h.1 ▸ c)] at b
    rw [← h.1] at b
    cases hz : i - rs.length with
    | zero =>
      rw [hz] at a b
      cases a
      cases b
      exact e
    | succ n => rw [hz] at a; cases a
def Posts (H : Hp) (a : Addr) (ps : List Post) : Prop := ∃ rs : List Addr, H a = some (.lst (rs.map V.ref)) ∧ Tups H rs ps
theorem Posts.mono {H H' : Hp} {a : Addr} {ps : List Post} (h : Posts H a ps) (s : Same H H') : Posts H' a ps := let ⟨rs, e, t⟩ := h; ⟨rs, s _ _ e, t.mono s⟩
abbrev Ints (H : Hp) (a : Addr) (xs : List Int) : Prop := H a = some (.lst (xs.map V.int))

/-! ### two stacks that hold alike things: how _law_stays_so goes through them -/
/-! ### a walk: the lanes at l, the rows so far at r, the numbers of the acting posts at c -/
section
variable {H1 H' : Hp} {l r c : Addr} {xs : List Int} {rs : List Addr} {rows : List (List Int)} {ac : List Int}
end
/-! ### slices of lists of ints -/
def cutI (xs : List Int) (lo hi : Option Int) : List Int := (xs.drop (HT.sIx xs.length 0 lo)).take (HT.sIx xs.length xs.length hi - HT.sIx xs.length 0 lo)
theorem cutV_ints (xs : List Int) (lo hi : Option Int) : cutV (xs.map V.int) lo hi = (cutI xs lo hi).map V.int := by
  unfold cutV cutI
  rw [List.length_map, ← List.map_drop, ← List.map_take]
theorem cutI_length (xs : List Int) (lo hi : Option Int) : (cutI xs lo hi).length ≤ xs.length := by
  unfold cutI
  rw [List.length_take, List.length_drop]
  omega
theorem cut_at {H : Hp} {a : Addr} {xs : List Int} {lo hi : Option Int} : Ints (upd H a (.lst (cutV (xs.map V.int) lo hi))) a (cutI xs lo hi) := by
  show _ = _
  rw [upd_same, cutV_ints]
theorem big {n : Nat} (h : n ≤ 100000) : n ≤ sizeLine := Nat.le_trans h (by decide)
theorem big' {n : Nat} (h : n < 100000) : n < sizeLine := Nat.lt_of_lt_of_le h (by decide)
end PN

namespace PN
open PySem L2
/-! ### rows by their places -/
/-! ### the mirror -/
/-! ### two numbers sorted -/
/-! ### posts as data -/
def tupD (p : Post) : PyData := .tuple [.int (p.1 : Nat), .int (p.2 : Nat)]
theorem paired_of {α β : Type} {F : α → β → Prop} : ∀ {l : List α} {m : List β}, l.length = m.length → (∀ (i : Nat) x y, l[i]? = some x → m[i]? = some y → F x y) → Paired F l m
  | [], [], _, _ => .nil
  | x :: l, y :: m, e, h => .cons (h 0 x y rfl rfl) (paired_of (by simpa using e) fun i a b ha hb => h (i + 1) a b (by simpa using ha) (by simpa using hb))
  | [], _ :: _, e, _ => by simp at e
  | _ :: _, [], e, _ => by simp at e
section
variable {P : Program} {w : World} {H : Hp}
theorem post_dt {r : Addr} {a b : Int} (e : H r = some (.tup [.int a, .int b])) : DtV P w H (.ref r) (.tuple [.int a, .int b]) := DtV.tup e (.cons (DtV.int _) (.cons (DtV.int _) .nil))
theorem tups_dt {rs : List Addr} {ps : List Post} (t : Tups H rs ps) : Paired (DtV P w H) (rs.map V.ref) (ps.map tupD) := by
  refine paired_of (by rw [List.length_map, List.length_map]; exact t.1) fun i x y hx hy => ?_
  obtain ⟨r, hr, rfl⟩ := map_get hx
  obtain ⟨p, hp, rfl⟩ := map_get hy
  exact post_dt (t.2 i r p hr hp)
theorem posts_dt {a : Addr} {ps : List Post} (h : Posts H a ps) : DtV P w H (.ref a) (.list (ps.map tupD)) := by
  obtain ⟨rs, e, t⟩ := h
  exact DtV.lst e (tups_dt t)
end
theorem lay_tups : ∀ ps : List Post, PyData.canLayAll0 (ps.map tupD) = true
  | [] => by simp [PyData.canLayAll0]
  | p :: r => by simp [PyData.canLayAll0, PyData.canLay0, tupD, lay_tups r]
theorem depth_tups : ∀ ps : List Post, PyData.depthAll (ps.map tupD) ≤ 60
  | [] => by simp [PyData.depthAll]
  | p :: r => by
    have z := depth_tups r
    simp only [List.map_cons, PyData.depthAll, PyData.depth, tupD]
    omega
theorem shaped_posts (ps : List Post) : SeqAt.shaped (.list (ps.map tupD)) = true := shaped_flat (lay_tups ps) (depth_tups ps)
theorem eqv_posts : ∀ ps : List Post, PyData.eqv (.list (ps.map tupD)) (.list (ps.map tupD)) = true
  | [] => by simp [PyData.eqv, PyData.eqvAll]
  | p :: r => by
    have z := eqv_posts r
    simp only [PyData.eqv] at z
    simp [PyData.eqv, PyData.eqvAll, tupD]
    simpa [tupD] using z
end PN

namespace PN
open PySem L2
/-! ### bits -/
/-! ### rows in order -/
end PN

namespace PN
open PySem L2
/-! ### the rows of noughts and ones, in two orders -/
/-! ### passing keeps the numbers -/
/-! ### noughts and ones tell -/
/-! ### a lane left alone -/
/-! ### how the law's rows are sorted -/
end PN

namespace L2
open PySem PySem.Spec PyProof.Rows
/-! ### a comprehension of one clause with one test -/
section
variable {X : Cx} {elt tg iter tst : Expr} {scope : Scope} {pos : Pos} {wi : TI} {g : TG} {tt : TT} {te : TE} {N : List Str} {own : Nat} {fr : List Nat} {cl : List (Str × Addr)}
end

/-! ### a comprehension with a test, by a word over the turns -/
section
variable {g : TG} {tt : TT} {te : TE} {own : Nat} {fr : List Nat} {σ : St} {H : Hp} {R : Hp → Prop} {D : Addr}
end
end L2

namespace L2
open PySem PySem.Spec PyProof.Rows PySem.W
/-! ### what the sort comes to, whatever the keys are -/
section
variable {r : Nat → Int} {n : Nat}
end
end L2

namespace L2
open PySem PySem.Spec PyProof.Rows
/-! ### sorted of a list of pairs of ints -/
section
variable {prog : Program} {w : World} {A : Around} {E : Value → Shared → Prop} {s : Shared}
end
end L2
namespace PN
open PySem PySem.Spec PyProof.Rows L2
section
variable {X : Cx}
end
end PN
namespace L2
open PySem PySem.Spec PyProof.Rows
end L2

namespace PN
open PySem L2
/-! ### the plain net -/
/-! ### a part of the row -/
/-! ### posts with a lane that is not there -/
/-! ### by halves -/
/-! ### nets that sort, and posts more or fewer -/
theorem Tups.app {H : Hp} {rs qs : List Addr} {ps os : List Post} (h : Tups H rs ps) (k : Tups H qs os) : Tups H (rs ++ qs) (ps ++ os) := by
  refine ⟨by rw [List.length_append, List.length_append, h.1, k.1], fun i r p a b => ?_⟩
  rw [List.getElem?_append] at a b
  by_cases c : i < rs.length
  · rw [if_pos c] at a
    rw [if_pos (h.1 ▸ c)] at b
    exact h.2 i r p a b
  · rw [if_neg c] at a
    rw [if_neg (h.1 ▸ c), ← h.1] at b
    exact k.2 _ r p a b
theorem seq_by {t u : TS} {D : Ends} {σ : St} {H : Hp} (R : St → Hp → Prop) (h1 : ∀ N : St → Hp → Prop, (∀ σ H, R σ H → N σ H) → t { D with nx := N } σ H) (h2 : ∀ σ H, R σ H → u D σ H) : tSeq t u D σ H := h1 (u D) h2
end PN

namespace PN
open PySem PySem.Spec PyProof.Rows L2
/-! ### None not in a list of Nones and lists of ints -/
end PN

namespace PN
open PySem L2
/-! ### thinning -/
end PN

namespace L2
open PySem PySem.Spec PyProof.Rows
/-! ### zip of two lists, its pairs taken apart -/
section
variable {X : Cx} {pins : List (Addr × Obj)} {σ : St} {H : Hp} {s : Shared} {h' : Heap}
end
section
variable {X : Cx}
end
section
variable {g : TG} {tt : TT} {te : TE} {own : Nat} {fr : List Nat} {σ : St} {H : Hp} {R : Hp → Prop} {D : Addr}
end
end L2

namespace L2
open PySem PySem.Spec PyProof.Rows
/-! ### range(a, b, c), c above nought -/
section
variable {X : Cx} {tg : Expr}
end
section
variable {g : TG} {te : TE} {own : Nat} {fr : List Nat} {σ : St} {H : Hp} {R : Hp → Prop} {D : Addr}
end
end L2

namespace L2
open PySem PySem.Spec PyProof.Rows

/-! ### lists of pairs as tables -/
section
variable {κ : Type} [DecidableEq κ]



end


/-! ### a tracked dict, its keys ints and texts or tuples of these -/


section
variable {P : Program} {w : World} {H : Hp} {h : Heap} {a : Addr}
end



section
variable {X : Cx} {pins : List (Addr × Obj)} {σ : St} {H : Hp} {s : Shared} {a : Addr} {y v : V} {u r : Value} {o : Option V} {A : Around} {E : Value → Shared → Prop}


end

section
variable {X : Cx} {pins : List (Addr × Obj)} {σ : St} {H : Hp} {s : Shared} {a : Addr} {kvs : List (Key × V)} {k : Key} {u : Value} {A : Around} {E : Value → Shared → Prop}
end


/-! ### readings and rules -/



section
variable {X : Cx} {o i e value : Expr} {pos pos' tpos : Pos} {td ty tv : TE}
end


/-! ### displays -/
section
variable {X : Cx} {pos : Pos}
end




/-! ### methods -/


section
variable {X : Cx} {pins : List (Addr × Obj)} {σ : St} {H : Hp} {s : Shared} {a : Addr} {y d : V} {u r : Value} {o : Option V} {A : Around} {E : Value → Shared → Prop}
end

section
variable {X : Cx} {o e f : Expr} {apos cpos : Pos} {td ty tx : TE}
end

/-! ### dict(d): a copy -/
section
variable {X : Cx} {pins : List (Addr × Obj)} {σ : St} {H : Hp} {s : Shared} {a : Addr} {kvs : List (Key × V)} {A : Around} {E : Value → Shared → Prop}
end


section
variable {X : Cx} {pins : List (Addr × Obj)} {σ : St} {H : Hp} {s : Shared} {a : Addr} {y : V} {u : Value} {A : Around} {E : Value → Shared → Prop}
end
end L2

namespace PN
open PySem L2
/-! ### layers -/
/-! the same posts on each lane -/
/-! posts that are apart change places -/
end PN

namespace PN
open PySem L2
/-! ### chains -/
end PN

namespace PN
open PySem L2
/-! ### numbers in lists, lanes in posts -/
end PN

namespace L2
open PySem
/-! ### max(xs, default = d) of a list of ints -/
section
variable {pg : Program} {wo : World} {Ar : Around} {RR : Result → Shared → Prop} {It : Addr} {fo wo' : List Addr} {n : Nat} {Pv : Nat → Value → Prop} {Sv : Nat → Heap → Prop} {kw : List (Str × Value)}
end
section
variable {pg : Program} {wo : World} {Ar : Around} {EE : Value → Shared → Prop} {s : Shared}
end
end L2

namespace L2
open PySem
/-! ### list(reversed(xs)) -/
section
variable {pg : Program} {wo : World} {Ar : Around} {RR : Result → Shared → Prop} {EE : Value → Shared → Prop} {s : Shared} {l I : Addr} {items : Array Value}
end
end L2

namespace L2
open PySem PySem.Spec PyProof.Rows
section
variable {X : Cx} {e d : Expr} {te td : TE} {p p2 pos pos2 kp : Pos}
end
end L2

namespace L2
open PySem Builtin Builtin.Str
/-! ### sep.join(reversed(xs)) -/
section
variable {pg : Program} {wo : World} {Ar : Around} {EE : Value → Shared → Prop} {s : Shared} {l I : Addr} {items : Array Value}
end
end L2

namespace L2
open PySem PySem.Spec PyProof.Rows
theorem strs_of : ∀ {xs : List Str} {us : List Value}, Vals (xs.map V.str) us → ∃ l : List (Str × Tok), us = strValues l ∧ l.map (·.1) = xs
  | [], us, r => by
    have e : us = [] := r.zero
    exact ⟨[], e, rfl⟩
  | x :: xs, us, r => by
    cases r with
    | cons r1 r2 =>
      obtain ⟨t, rfl⟩ := r1
      obtain ⟨l, e, h⟩ := strs_of r2
      refine ⟨(x, t) :: l, ?_, by rw [List.map_cons, h]⟩
      rw [e]
      rfl
theorem vals_strs : ∀ (l : List (Str × Tok)), Vals ((l.map (·.1)).map V.str) (strValues l)
  | [] => .nil
  | (x, t) :: l => .cons ⟨t, rfl⟩ (vals_strs l)
section
variable {X : Cx} {e o : Expr} {te to : TE} {p p2 pos pos2 apos cpos : Pos}
def rJoin (K : PySem.W.Frag) : V → List V → Hp → VK → Prop := fun x vs H Q => ∃ (sep : Str) (a : Addr) (texts : List Str), x = .str sep ∧ vs = [.ref a] ∧ SqL K H a (texts.map V.str) ∧ JoinOk sep texts = true ∧ Q (.str (Txt.join sep texts)) H
/-- sep.join(xs) -/
theorem mt_join : MtR X "str.join" (rJoin X.K) := by
  intro pins s σ H x xs v us Q I rx rs h
  obtain ⟨sep, a, texts, rfl, rfl, hq, hok, q⟩ := h
  obtain ⟨t, rfl⟩ := rx
  obtain ⟨u, rfl, ru⟩ := vals1 rs
  cases ru
  obtain ⟨its, r, pl, hz⟩ := I.list hq
  obtain ⟨l, rfl, hl⟩ := strs_of r
  exact SC.join pl.isList hl hok fun t' k => ⟨.str (Txt.join sep texts), H, I.tok k, ⟨t', rfl⟩, q⟩
end
section
open Builtin Builtin.Str
variable {pg : Program} {wo : World} {Ar : Around} {EE : Value → Shared → Prop} {s : Shared} {a y : Str} {t u : Tok} {Q : Value → Shared → Prop}
theorem split_own (hy : (y.length == 0) = false) (hz : a.length + 2 ≤ sizeLine)
    (hQ : ∀ ls k, ls.map (·.1) = Txt.split a y → ls.length ≤ sizeLine → Q (.ref s.heap.objs.size) { s with heap := s.heap.push { cls := .type "list", data := .seq (strValues ls).toArray }, toks := k }) :
    wpAny (model pg wo) Ar (call (.builtin "str.split") [.str a t, .str y u]) Q EE s := by
  have hn : (partsBetween a (occurrences a y 0 a.length (a.length + 1)) y.length).length ≤ sizeLine := by
    have e1 := StrLaws.occ_length_le a y 0 a.length (a.length + 1)
    rw [length_partsBetween]
    omega
  cases c1 : (decide (a.length < y.length) || decide (Builtin.Str.strKind a < Builtin.Str.strKind y)) with
  | true => exact call_meets F.slot_str_split (typeIs_str _ _ _) F.entry_str_split (F.args_str_split_2 _ _) (meets_str_split_cannot_occur a y t u c1) (hQ [(a, t)] s.toks (if_pos c1).symm (by show 1 ≤ sizeLine; decide))
  | false =>
    cases c2 : (occurrences a y 0 a.length (a.length + 1)).isEmpty with
    | true => exact call_meets F.slot_str_split (typeIs_str _ _ _) F.entry_str_split (F.args_str_split_2 _ _) (meets_str_split_not_found a y t u c1 hy c2) (hQ [(a, t)] s.toks ((if_neg (ne_true_of_eq_false c1)).trans (if_pos c2)).symm (by show 1 ≤ sizeLine; decide))
    | false =>
      refine call_meets F.slot_str_split (typeIs_str _ _ _) F.entry_str_split (F.args_str_split_2 _ _) (meets_str_split_sep a y t u c1 hy c2 (by omega) hn) ?_
      show wants Q EE _ { s with toks := _, heap := s.heap.push { cls := .type "list", data := .seq (strsFrom s.toks (partsBetween a (occurrences a y 0 a.length (a.length + 1)) y.length)).toArray } }
      rw [strsFrom_eq]
      have et := numbered_texts s.toks (partsBetween a (occurrences a y 0 a.length (a.length + 1)) y.length)
      refine hQ (numbered s.toks _) _ (et.trans ((if_neg (ne_true_of_eq_false c1)).trans (if_neg (ne_true_of_eq_false c2))).symm) ?_
      have el := congrArg List.length et
      rw [List.length_map] at el
      omega
end
section
variable {X : Cx} {e o : Expr} {te to : TE} {p p2 pos pos2 apos cpos : Pos}
def rSplit : V → List V → Hp → VK → Prop := fun x vs H Q => ∃ a y, x = .str a ∧ vs = [.str y] ∧ (y.length == 0) = false ∧ a.length + 2 ≤ sizeLine ∧ ∀ l, H l = none → Q (.ref l) (upd H l (.lst ((Txt.split a y).map V.str)))
/-- x.split(y) -/
theorem mt_split : MtR X "str.split" rSplit := by
  intro pins s σ H x xs v us Q I rx rs h
  obtain ⟨a, y, rfl, rfl, hy, h1, q⟩ := h
  obtain ⟨t, rfl⟩ := rx
  obtain ⟨u, rfl, ru⟩ := vals1 rs
  obtain ⟨t2, rfl⟩ := ru
  refine split_own hy h1 fun ls k hl hz => ?_
  refine ⟨.ref s.heap.objs.size, _, I.laid (t' := k) (fun b u e => Heap.get?_push_of_some _ e) (Nat.le_refl _) (show ObjOk X.prog X.w _ _ _ (.lst ((Txt.split a y).map V.str)) from ⟨?_, strValues ls, 0, ?_, Heap.get?_push_size _ rfl⟩), rfl, q _ (I.hok.fresh (Nat.le_refl _))⟩
  · rw [List.length_map, ← hl, List.length_map]
    exact hz
  · rw [← hl]
    exact vals_strs ls
end
/-! ### the signs of a text, in a for -/
def Itx (x : Str) : It := ⟨fun i _ => i < x.cps.size, fun i H v H' => H' = H ∧ ∃ c, x.cps[i]? = some c ∧ v = .str ⟨#[c]⟩, fun i _ => x.cps.size ≤ i⟩
theorem turn_str {P : Program} {w : World} {K : PySem.W.Frag} {tg : Expr} {n : String} (it : Addr) (x : Str) (t : Tok) (W : ∀ A : Around, A.handled = none → Walks P w A it [it] [it] x.cps.size (SignAt x) (fun i h => h.IsStrIter it n x t i))
    (hn : ["enumerate", "zip", "dict_itemiterator", "dict_reverseitemiterator", "odict_iterator", "itertools.zip_longest", "itertools.pairwise"].contains n = false)
    (hself : ∀ (A : Around) (i : Nat) (s : Shared) (Q : Value → Shared → Prop) (E : Value → Shared → Prop), s.heap.IsStrIter it n x t i → Q (.ref it) s → wpAny (model P w) A (pyIter (.ref it)) Q E s) : Turn P w K tg (Itx x) [it] it (fun i h => i ≤ x.cps.size ∧ h.IsStrIter it n x t i) where
  mem := by simp
  obj := fun i h st b hb => by
    have e : b = it := by simpa using hb
    subst e
    obtain ⟨_, o, e, c, d⟩ := st
    exact ⟨o, e, fun v z => by rw [d] at z; cases z⟩
  keep := fun i h h' st k => ⟨st.1, let ⟨o, e, r⟩ := st.2; ⟨o, k it (by simp) o e, r⟩⟩
  item := by
    intro X hP hw hK hc i pins s σ H E I hf st hg
    subst hP hw hK
    obtain ⟨f0, f1, f2, f3, f4, f5⟩ := hf it (by simp)
    refine (W X.A (I.ok.hd hc)).item i s _ _ hg st.2 fun v h' tk hv st' kk => ?_
    obtain ⟨c, u, ec, rfl⟩ := hv
    have I1 : Inv X pins σ H { s with heap := h', toks := tk } := I.turned (fun b o hb e => kk b o (by simpa using hb) e) f0 f1 f3 f4 f5
    obtain ⟨o, eo, oc, od⟩ := id st'
    exact ⟨_, rfl, go_of (s := { s with heap := h', toks := tk }) (n := n) eo oc od hn ⟨.str ⟨#[c]⟩, H, I1, ⟨u, rfl⟩, ⟨rfl, c, ec, rfl⟩, ⟨hg, st'⟩, fun b hb => (hf b hb).1⟩⟩
  done := by
    intro X hP hw hK hc i pins s σ H E I hf st hg
    subst hP hw hK
    obtain ⟨f0, f1, f2, f3, f4, f5⟩ := hf it (by simp)
    have e : i = x.cps.size := Nat.le_antisymm st.1 hg
    subst e
    exact (W X.A (I.ok.hd hc)).done s _ _ st.2 fun h' tk kk => ⟨rfl, I.turned (t' := tk) (fun b o hb e => kk b o (by simpa using hb) e) f0 f1 f3 f4 f5⟩
  self := fun A i s Q E st h => hself A i s Q E st.2 h
section
variable {X : Cx} {e : Expr} {te : TE} {tg : Expr}
def iStr (te : TE) : TI := fun σ H R => te σ H fun v H1 => ∃ x, v = .str x ∧ R (Itx x) H1
theorem pi_str (he : PE X e te) : PI X tg e (iStr te) := by
  intro pins s σ H R I h
  refine thn (he pins s σ H _ I h) fun v s1 ⟨y, H1, I1, ry, x, ey, q⟩ => ?_
  subst ey
  obtain ⟨t, rfl⟩ := ry
  have fp : ∀ b ∈ [s1.heap.objs.size], FpOk X pins H1 b := fun b hb => by
    have e : b = s1.heap.objs.size := by simpa using hb
    subst e
    exact I1.fpOk (Nat.le_refl _) (I1.hok.fresh (Nat.le_refl _))
  cases ha : x.cps.all (· < 128) with
  | false =>
    refine wpAny_pyIter_wide ha ?_
    exact ⟨s1.heap.objs.size, [s1.heap.objs.size], _, _, H1, rfl, I1.kept (t' := s1.toks) fun b o e => Heap.get?_push_of_some _ e, turn_str s1.heap.objs.size x t (fun A hA => Walks.strWide hA _ x t) (by decide) (fun A i s Q E st h => wpAny_pyIter_striter_wide st h), ⟨Nat.zero_le _, _, Heap.get?_push_size _ rfl, rfl, rfl⟩, fp, q⟩
  | true =>
    refine wpAny_pyIter_ascii ha ?_
    exact ⟨s1.heap.objs.size, [s1.heap.objs.size], _, _, H1, rfl, I1.kept (t' := s1.toks) fun b o e => Heap.get?_push_of_some _ e, turn_str s1.heap.objs.size x t (fun A hA => Walks.strAscii hA _ x t) (by decide) (fun A i s Q E st h => wpAny_pyIter_striter_ascii st h), ⟨Nat.zero_le _, _, Heap.get?_push_size _ rfl, rfl, rfl⟩, fp, q⟩
end
theorem for_str {x : Str} {g : TG} {tb : TS} {D : Ends} {σ : St} {H : Hp} (Pv : Nat → St → Hp → Prop) (h0 : Pv 0 σ H)
    (hs : ∀ i c σ H, x.cps[i]? = some c → Pv i σ H → g (.str ⟨#[c]⟩) σ H fun σ2 H2 => tb { D with nx := Pv (i + 1), ct := Pv (i + 1), bk := D.nx } σ2 H2) (hd : ∀ σ H, Pv x.cps.size σ H → D.nx σ H) :
    ∃ W : Nat → Nat → St → Hp → Prop, (∃ m, W 0 m σ H) ∧ ∀ i m σ H, W i m σ H →
      ((Itx x).stop i H ∧ D.nx σ H) ∨ ((Itx x).go i H ∧ ∃ N : St → Hp → Prop, (∀ σ' H', N σ' H' → ∃ m', m' < m ∧ W (i + 1) m' σ' H') ∧ ∀ v H', (Itx x).yld i H v H' → g v σ H' fun σ2 H2 => tb { D with nx := N, ct := N, bk := D.nx } σ2 H2) := by
  refine ⟨fun i m σ H => m = x.cps.size - i ∧ i ≤ x.cps.size ∧ Pv i σ H, ⟨x.cps.size, by simp, Nat.zero_le _, h0⟩, ?_⟩
  rintro i m σ H ⟨rfl, hi, p⟩
  by_cases hlt : i < x.cps.size
  · refine .inr ⟨hlt, Pv (i + 1), fun σ' H' p' => ⟨x.cps.size - (i + 1), by omega, rfl, hlt, p'⟩, fun v H' y => ?_⟩
    obtain ⟨e, c, ec, ev⟩ := y
    subst e ev
    exact hs i c σ _ ec p
  · have e : i = x.cps.size := by omega
    subst e
    exact .inl ⟨Nat.le_refl _, hd σ H p⟩
section
variable {X : Cx}
/-- int(a figure) -/
theorem call_intS : CallR X (.type "int") (fun xs H Q => ∃ d : Nat, xs = [.str ⟨#[48 + d]⟩] ∧ d < 10 ∧ Q (.int (d : Nat)) H) := by
  intro pins s σ H xs us Q I r h
  obtain ⟨d, rfl, hd, q⟩ := h
  obtain ⟨u, rfl, ru⟩ := vals1 r
  obtain ⟨t, rfl⟩ := ru
  have e : (⟨#[48 + d]⟩ : Str) = Str.ofString (toString ((d : Nat) : Int)) := by
    have z : ∀ d ∈ List.range 10, (⟨#[48 + d]⟩ : Str) = Str.ofString (toString ((d : Nat) : Int)) := by decide +kernel
    exact z d (List.mem_range.mpr hd)
  rw [e]
  exact PySem.W.KIN.call_num (by omega) (by omega) ⟨.int (d : Nat), H, I.tok _, ⟨_, rfl⟩, q⟩
end
theorem digit_in {d : Nat} (h : d < 10) : (Builtin.Str.occurrences "0123456789" ⟨#[48 + d]⟩ 0 (("0123456789" : Str).length) 1).isEmpty = false := by
  have z : ∀ d ∈ List.range 10, (Builtin.Str.occurrences "0123456789" ⟨#[48 + d]⟩ 0 (("0123456789" : Str).length) 1).isEmpty = false := by decide +kernel
  exact z d (List.mem_range.mpr h)
end L2

namespace PN
open PySem L2
/-! ### numbers by their figures -/
def decL (m : Nat) : List Nat := (Nat.toDigits 10 m).map Char.toNat
def figS (m : Nat) : Str := ⟨(decL m).toArray⟩
theorem str_ext {a b : Str} (h : a.cps.toList = b.cps.toList) : a = b := by
  cases a
  cases b
  congr 1
  exact Array.toList_inj.mp h
theorem figS_str (m : Nat) : Str.ofString (toString ((m : Nat) : Int)) = figS m := by
  refine str_ext ?_
  rw [PySem.W.KIN.signs_num]
  show _ = (decL m).toArray.toList
  rw [List.toList_toArray]
  rfl
theorem dig_code {d : Nat} (h : d < 10) : (Nat.digitChar d).toNat = 48 + d := by
  have z : ∀ d ∈ List.range 10, (Nat.digitChar d).toNat = 48 + d := by decide
  exact z d (List.mem_range.mpr h)
theorem decL_small {m : Nat} (h : m < 10) : decL m = [48 + m] := by
  unfold decL
  rw [Nat.toDigits_of_lt_base h, List.map_cons, dig_code h]
  rfl
theorem decL_big {m : Nat} (h : 10 ≤ m) : decL m = decL (m / 10) ++ [48 + m % 10] := by
  have hm : m % 10 < 10 := Nat.mod_lt m (by decide)
  have t : Nat.toDigits 10 (m / 10) ++ Nat.toDigits 10 (m % 10) = Nat.toDigits 10 (10 * (m / 10) + m % 10) := Nat.toDigits_append_toDigits (by decide) (by omega) hm
  rw [Nat.div_add_mod] at t
  unfold decL
  rw [← t, List.map_append, Nat.toDigits_of_lt_base hm, List.map_cons, dig_code hm]
  rfl
theorem decL_val (m : Nat) : (decL m).foldl (fun acc c => acc * 10 + (c - 48)) 0 = m := PySem.W.KIN.val_back m
theorem decL_fig (m : Nat) : ∀ c ∈ decL m, ∃ d, d < 10 ∧ c = 48 + d := by
  induction m using Nat.strongRecOn with
  | _ m ih =>
    intro c hc
    by_cases h : m < 10
    · rw [decL_small h, List.mem_singleton] at hc
      exact ⟨m, h, hc⟩
    · rw [decL_big (by omega)] at hc
      rcases List.mem_append.mp hc with z | z
      · exact ih (m / 10) (by omega) c z
      · exact ⟨m % 10, Nat.mod_lt m (by decide), List.mem_singleton.mp z⟩
theorem decL_length (m : Nat) : 1 ≤ (decL m).length ∧ (decL m).length ≤ m + 1 := by
  induction m using Nat.strongRecOn with
  | _ m ih =>
    by_cases h : m < 10
    · rw [decL_small h]
      exact ⟨Nat.le_refl _, by show 1 ≤ m + 1; omega⟩
    · rw [decL_big (by omega), List.length_append]
      have z := ih (m / 10) (by omega)
      show 1 ≤ _ + 1 ∧ _ + 1 ≤ m + 1
      omega
theorem decL_first (m : Nat) : m = 0 ∨ ∃ d r, 1 ≤ d ∧ d < 10 ∧ decL m = (48 + d) :: r := by
  induction m using Nat.strongRecOn with
  | _ m ih =>
    by_cases h : m < 10
    · by_cases h0 : m = 0
      · exact .inl h0
      · exact .inr ⟨m, [], by omega, h, decL_small h⟩
    · rcases ih (m / 10) (by omega) with z | ⟨d, r, h1, h2, h3⟩
      · omega
      · exact .inr ⟨d, r ++ [48 + m % 10], h1, h2, by rw [decL_big (by omega), h3]; rfl⟩
theorem figS_length (m : Nat) : (figS m).length = (decL m).length := by
  show (decL m).toArray.size = _
  rw [List.size_toArray]
theorem figS_cps (m : Nat) : (figS m).cps.toList = decL m := by
  show (decL m).toArray.toList = _
  rw [List.toList_toArray]
/-! ### joined and split at a sign -/
def JL (c : Nat) : List (List Nat) → List Nat
  | [] => []
  | [x] => x
  | x :: y :: r => x ++ c :: JL c (y :: r)
theorem join_cps (c : Nat) : ∀ ts : List Str, (Str.join ⟨#[c]⟩ ts).cps.toList = JL c (ts.map fun t => t.cps.toList)
  | [] => rfl
  | [x] => rfl
  | x :: y :: r => by
    have ih := join_cps c (y :: r)
    show ((x ++ (⟨#[c]⟩ : Str) ++ Str.join ⟨#[c]⟩ (y :: r)).cps).toList = x.cps.toList ++ c :: JL c ((y :: r).map fun t => t.cps.toList)
    rw [← ih, Str.cps_append, Str.cps_append, Array.toList_append, Array.toList_append]
    simp
theorem cut_same {c : Nat} : ∀ {a b u v : List Nat}, c ∉ a → c ∉ b → a ++ c :: u = b ++ c :: v → a = b ∧ u = v
  | [], [], _, _, _, _, h => ⟨rfl, (List.cons.inj h).2⟩
  | [], y :: b, _, _, _, hb, h => absurd (by rw [(List.cons.inj h).1]; exact List.mem_cons_self) hb
  | x :: a, [], _, _, ha, _, h => absurd (by rw [← (List.cons.inj h).1]; exact List.mem_cons_self) ha
  | x :: a, y :: b, _, _, ha, hb, h => by
    obtain ⟨e, h'⟩ := List.cons.inj h
    obtain ⟨e1, e2⟩ := cut_same (fun z => ha (List.mem_cons_of_mem _ z)) (fun z => hb (List.mem_cons_of_mem _ z)) h'
    exact ⟨by rw [e, e1], e2⟩
theorem JL_inj {c : Nat} : ∀ {ps qs : List (List Nat)}, ps ≠ [] → qs ≠ [] → (∀ p ∈ ps, c ∉ p) → (∀ q ∈ qs, c ∉ q) → JL c ps = JL c qs → ps = qs
  | [], _, h, _, _, _, _ => absurd rfl h
  | _ :: _, [], _, h, _, _, _ => absurd rfl h
  | [x], [y], _, _, _, _, h => by
    have h' : x = y := h
    rw [h']
  | [x], y :: z :: r, _, _, hp, _, h => by
    have h' : x = y ++ c :: JL c (z :: r) := h
    exact absurd (by rw [h']; exact List.mem_append_right _ List.mem_cons_self) (hp x List.mem_cons_self)
  | x :: w :: r, [y], _, _, _, hq, h => by
    have h' : x ++ c :: JL c (w :: r) = y := h
    exact absurd (by rw [← h']; exact List.mem_append_right _ List.mem_cons_self) (hq y List.mem_cons_self)
  | x :: w :: r, y :: z :: t, _, _, hp, hq, h => by
    have h' : x ++ c :: JL c (w :: r) = y ++ c :: JL c (z :: t) := h
    obtain ⟨e1, e2⟩ := cut_same (hp x List.mem_cons_self) (hq y List.mem_cons_self) h'
    rw [e1, JL_inj (by simp) (by simp) (fun p m => hp p (List.mem_cons_of_mem _ m)) (fun p m => hq p (List.mem_cons_of_mem _ m)) e2]
theorem split_joined {c : Nat} {ts : List Str} (h0 : ts ≠ []) (hf : ∀ t ∈ ts, c ∉ t.cps.toList) : Txt.split (Txt.join ⟨#[c]⟩ ts) ⟨#[c]⟩ = ts := by
  have e : Txt.join ⟨#[c]⟩ ts = Str.join ⟨#[c]⟩ ts := StrLaws.glued_eq_join _ _
  have hj := StrLaws.join_split (Txt.join ⟨#[c]⟩ ts) ⟨#[c]⟩
  have hfree := StrLaws.split_free (Txt.join ⟨#[c]⟩ ts) c
  have hpos := PyProof.Rows.split_pos (Txt.join ⟨#[c]⟩ ts) ⟨#[c]⟩
  generalize hq : Txt.split (Txt.join ⟨#[c]⟩ ts) ⟨#[c]⟩ = qs at hj hfree hpos
  rw [e] at hj
  have hc : (Str.join ⟨#[c]⟩ qs).cps.toList = (Str.join ⟨#[c]⟩ ts).cps.toList := by rw [hj]
  rw [join_cps, join_cps] at hc
  have z := JL_inj (c := c) (by intro z; have := congrArg List.length z; simp at this; rw [this] at hpos; simp at hpos) (by intro z; exact h0 (List.map_eq_nil_iff.mp z)) (fun p m => by obtain ⟨t, ht, rfl⟩ := List.mem_map.mp m; exact hfree t ht) (fun p m => by obtain ⟨t, ht, rfl⟩ := List.mem_map.mp m; exact hf t ht) hc
  have inj : ∀ {as bs : List Str}, (as.map fun t => t.cps.toList) = (bs.map fun t => t.cps.toList) → as = bs := by
    intro as
    induction as with
    | nil => intro bs h; exact (List.map_eq_nil_iff.mp h.symm).symm
    | cons a as ih =>
      intro bs h
      cases bs with
      | nil => cases h
      | cons b bs =>
        obtain ⟨h1, h2⟩ := List.cons.inj h
        rw [str_ext h1, ih h2]
  exact inj z
end PN
namespace PN
open PySem L2
theorem join_ok {sep : Str} {ts : List Str} {B : Nat} (hB : ∀ y ∈ ts, y.length ≤ B) (h : ts.length * B + ts.length * sep.length ≤ 16777216) : JoinOk sep ts = true := by
  unfold JoinOk
  rw [StrLaws.joinFits hB h]
  rfl
def postS (p : Post) : Str := figS p.1 ++ (":" : Str) ++ figS p.2
def lineS (L : List Post) : Str := Txt.join " " (L.map postS)
theorem postS_join (p : Post) : postS p = Txt.join ⟨#[58]⟩ [figS p.1, figS p.2] := by
  have e : Txt.join ⟨#[58]⟩ [figS p.1, figS p.2] = Str.join ⟨#[58]⟩ [figS p.1, figS p.2] := StrLaws.glued_eq_join _ _
  rw [e]
  have c : (":" : Str) = ⟨#[58]⟩ := by decide +kernel
  unfold postS
  rw [c]
  rfl
theorem figS_free (m c : Nat) (h : c < 48 ∨ 57 < c) : c ∉ (figS m).cps.toList := fun z => by
  rw [figS_cps] at z
  obtain ⟨d, hd, e⟩ := decL_fig m c z
  omega
theorem postS_split (p : Post) : Txt.split (postS p) ":" = [figS p.1, figS p.2] := by
  have c : (":" : Str) = ⟨#[58]⟩ := by decide +kernel
  rw [c, postS_join]
  refine split_joined (by simp) fun t ht => ?_
  simp only [List.mem_cons, List.not_mem_nil, or_false] at ht
  rcases ht with e | e <;> rw [e] <;> exact figS_free _ _ (.inr (by decide))
theorem postS_free (p : Post) : 32 ∉ (postS p).cps.toList := fun z => by
  unfold postS at z
  rw [Str.cps_append, Str.cps_append, Array.toList_append, Array.toList_append] at z
  rcases List.mem_append.mp z with z | z
  · rcases List.mem_append.mp z with z | z
    · exact figS_free _ _ (.inl (by decide)) z
    · have c : (":" : Str).cps.toList = [58] := by decide +kernel
      rw [c] at z
      simp at z
  · exact figS_free _ _ (.inl (by decide)) z
theorem lineS_split {L : List Post} (h : L ≠ []) : Txt.split (lineS L) " " = L.map postS := by
  have c : (" " : Str) = ⟨#[32]⟩ := by decide +kernel
  unfold lineS
  rw [c]
  refine split_joined (fun z => h (List.map_eq_nil_iff.mp z)) fun t ht => ?_
  obtain ⟨p, _, rfl⟩ := List.mem_map.mp ht
  exact postS_free p
theorem postS_length (p : Post) : (postS p).length ≤ p.1 + p.2 + 3 := by
  unfold postS
  rw [Str.length_append, Str.length_append, figS_length, figS_length]
  have h1 := (decL_length p.1).2
  have h2 := (decL_length p.2).2
  have h3 : (":" : Str).length = 1 := by decide +kernel
  omega
end PN

namespace L2
open PySem PySem.Spec PyProof.Rows
/-! ### an exception that leaves a def -/
/-- the exception at ea, of the class cls, is under way behind a call made at h0: what was there stays, what is tracked is as H' says; B holds all but the frames and what is new and untracked -/
structure Fly (P : Program) (w : World) (l : List Env) (H : Hp) (h0 : Heap) (ea : Addr) (cls : Value) (H' : Hp) (h : Heap) : Prop where
  un : Un (frs l) [] H H' h0 h
  hok : HOk P w H' h
  new : h0.get? ea = none
  free : H' ea = none
  fly : ∃ (B : Heap) (t : Addr), Heap.FlyingW B l ea cls (.ref t) h ∧ ∀ b o, h.get? b = some o → b ∉ frs l → B.get? b = some o ∨ (h0.get? b = none ∧ H' b = none)
/-- what is wanted of an exception: its class, its address, the heap -/
def CXw (P : Program) (w : World) : CXT := fun l H s E e s' => ∃ ea cls H', e = .ref ea ∧ s'.os = s.os ∧ AllBare s'.gens ∧ Fly P w l H s.heap ea cls H' s'.heap ∧ E cls (some ea) H'
section
variable {P : Program} {w : World}
/-- the facts of a step in which only what B doesn't hold changes -/
theorem Fly.step {l l0 : List Env} {H0 H H' : Hp} {h0 h h1 h' : Heap} (u0 : Un (frs l0) [] H0 H h0 h) (u1 : Un (frs l) [] H H' h h1) (hok : HOk P w H' h1) (frf : ∀ b ∈ frs l, H b = none) (frt : ∀ b ∈ frs l, ∃ o, h.get? b = some o)
    (sub : ∀ b o, h0.get? b = some o → b ∈ frs l → b ∈ frs l0) (sub' : ∀ b ∈ frs l0, b ∈ frs l)
    {B : Heap} (nf : ∀ b ∈ frs l, ∃ o, h1.get? b = some o ∧ ∀ vs, o.data ≠ .fields vs) (held : ∀ b o, h1.get? b = some o → b ∉ frs l → B.get? b = some o ∨ (h.get? b = none ∧ H' b = none))
    (st : B.StaysIn h') (sm : h1.UpToSlots h') : Un (frs l0) [] H0 H' h0 h' ∧ HOk P w H' h' ∧ ∀ b o, h'.get? b = some o → b ∉ frs l0 → B.get? b = some o ∨ (h0.get? b = none ∧ H' b = none) := by
  have n0 : ∀ b : Addr, b ∉ ([] : List Addr) := fun b z => by cases z
  have tnf : ∀ b u, H' b = some u → b ∉ frs l := fun b u e m => by
    obtain ⟨o, ho⟩ := frt b m
    rw [u1.free b o ho (frf b m) (n0 b)] at e
    cases e
  have inB : ∀ b o, h1.get? b = some o → b ∉ frs l → (∃ o', h.get? b = some o') ∨ H' b ≠ none → B.get? b = some o := fun b o e nb q => by
    rcases held b o e nb with z | ⟨z1, z2⟩
    · exact z
    · rcases q with ⟨o', q⟩ | q
      · rw [z1] at q
        cases q
      · exact absurd z2 q
  have key : ∀ b o, h0.get? b = some o → H0 b = none → b ∉ frs l0 → h'.get? b = some o := fun b o e n nb => by
    have e1 := u0.keep b o e n nb (n0 b)
    have nb' : b ∉ frs l := fun m => nb (sub b o e m)
    have e2 := u1.keep b o e1 (u0.free b o e n (n0 b)) nb' (n0 b)
    exact st b o (inB b o e2 nb' (.inl ⟨o, e1⟩))
  refine ⟨⟨fun b o e n nb _ => key b o e n nb, fun b o e n m _ => ?_, fun b o e n _ => ?_, fun b o e _ => ?_, fun b xs q => u1.tups b xs (u0.tups b xs q), fun b ob u q => u1.frzs b ob u (u0.frzs b ob u q), fun b ps q => ?_⟩, fun b u q => ?_, fun b o e nb => ?_⟩
  · obtain ⟨sl, e1⟩ := u0.slot b o e n m (n0 b)
    obtain ⟨sl2, e2⟩ := u1.slot b _ e1 (u0.free b o e n (n0 b)) (sub' b m) (n0 b)
    obtain ⟨o2, e3, nd⟩ := nf b (sub' b m)
    rw [e2] at e3
    cases e3
    obtain ⟨sl3, e4⟩ := sm b _ e2 nd
    exact ⟨sl3, e4⟩
  · obtain ⟨o1, e1⟩ := u0.there b o e (n0 b)
    exact u1.free b o1 e1 (u0.free b o e n (n0 b)) (n0 b)
  · obtain ⟨o1, e1⟩ := u0.there b o e (n0 b)
    obtain ⟨o2, e2⟩ := u1.there b o1 e1 (n0 b)
    by_cases m : b ∈ frs l
    · obtain ⟨o3, e3, nd⟩ := nf b m
      rw [e2] at e3
      cases e3
      obtain ⟨sl, e4⟩ := sm b _ e2 nd
      exact ⟨_, e4⟩
    · exact ⟨o2, st b o2 (inB b o2 e2 m (.inl ⟨o1, e1⟩))⟩
  · obtain ⟨m1, q1⟩ := u0.tbls b ps q
    obtain ⟨m2, q2⟩ := u1.tbls b _ q1
    exact ⟨m1 ++ m2, by rw [q2, Array.append_assoc]⟩
  · refine (hok b u q).stay (fun c v hc e => ?_) (fun _ z => z) fun _ _ z => z
    have hc' : ∃ z, H' c = some z := by
      rcases hc with rfl | hc
      · exact ⟨_, q⟩
      · exact ⟨_, hc⟩
    obtain ⟨z, hz⟩ := hc'
    exact st c v (inB c v e (tnf c z hz) (.inr (by rw [hz]; intro y; cases y)))
  · cases hb : B.get? b with
    | some o2 =>
      have := st b o2 hb
      rw [e] at this
      exact .inl this.symm
    | none =>
      refine .inr ⟨?_, ?_⟩
      · cases q : h0.get? b with
        | none => rfl
        | some o0 =>
          obtain ⟨o1, e1⟩ := u0.there b o0 q (n0 b)
          obtain ⟨o2, e2⟩ := u1.there b o1 e1 (n0 b)
          rw [inB b o2 e2 (fun m => nb (sub b o0 q m)) (.inl ⟨o1, e1⟩)] at hb
          cases hb
      · cases q : H' b with
        | none => rfl
        | some u =>
          obtain ⟨o2, e2⟩ := (hok b u q).there
          rw [inB b o2 e2 (tnf b u q) (.inr (by rw [q]; intro y; cases y))] at hb
          cases hb
/-- out of one more frame -/
theorem passW {K : PySem.W.Frag} {mg : Str → Option Value} {base : Heap} {N : List Str} {qual : Str} {scope : Scope} {f : Addr} {cd : Value} {A : Around} {outer : List Env} {s0 : Shared} {H0 : Hp} {E : XK} :
    Passes (CXw P w) (cxOf (CXw P w) P w K mg base N qual scope f cd A outer s0 H0 E) E := by
  intro pins σ H s e s' I hc
  obtain ⟨ea, cls, H', rfl, os, bare, F, q⟩ := hc
  obtain ⟨B, t, hfl, held⟩ := F.fly
  have frt := fun b (m : b ∈ frs (envOfC qual scope s0.heap.objs.size f cd :: outer)) => (I.stack.mem m).2
  refine wpAny_leaves_onW I.ok.frames (show (envOfC qual scope s0.heap.objs.size f cd).frame = some s0.heap.objs.size from rfl) hfl fun h' hfl' sm => ?_
  have efr : frs (cxOf (CXw P w) P w K mg base N qual scope f cd A outer s0 H0 E).stack = s0.heap.objs.size :: frs outer := rfl
  have R := Fly.step (l0 := outer) I.base F.un F.hok I.stkFree (fun b m => let ⟨o, e, _⟩ := frt b m; ⟨o, e⟩) (fun b o e m => by
      rw [efr] at m
      rcases List.mem_cons.mp m with z | z
      · subst z
        exact absurd (Heap.lt_size e) (Nat.lt_irrefl _)
      · exact z) (fun b m => by rw [efr]; exact List.mem_cons_of_mem _ m) (fun b m => (hfl.2.2.1.mem m).2) held hfl'.1 sm
  refine ⟨ea, cls, H', rfl, os.trans I.os, bare, ⟨R.1, R.2.1, ?_, F.free, B, t, hfl', R.2.2⟩, q⟩
  cases q : s0.heap.get? ea with
  | none => rfl
  | some o =>
    obtain ⟨o1, e1⟩ := I.base.there ea o q (fun z => by cases z)
    have := F.new
    rw [e1] at this
    cases this
end
end L2

namespace L2
open PySem PySem.Spec PyProof.Rows
/-! ### calls that may raise -/
/-- an exception of a callee reaches what this body wants of exceptions; the wish may speak of the names -/
def PassesS (CX : CXT) (X : Cx) (EE : St → XK) : Prop := ∀ (pins : List (Addr × Obj)) (σ : St) (H : Hp) (s : Shared) (e : Value) (s' : Shared), Inv X pins σ H s → CX X.stack H s (EE σ) e s' → X.xe e s'
/-- f(..) whose wish of an exception may speak of the names -/
def tCallS (sp : Sp) (EE : St → XK) (t : TA) : TE := fun σ H Q => t σ H fun vs H1 => sp vs H1 Q (EE σ)
section
variable {X : Cx} {CX : CXT} {k : Nat} {f : Addr} {fd : FuncData} {ps : List Str} {sp : Sp} {EE : St → XK} {x : Str} {p pos : Pos} {e : Expr} {es : List Expr} {t : TA}
theorem pe_callS (F : FnOk X.prog X.w X.K X.mg X.base CX k f fd ps sp) (hr : Room k X.A) (hg : Gl X x) (hm : X.mg x = some (.ref f)) (hk : PySem.W.keepIn X.K (.ref f) = true) (hb : Binds X.K fd ps []) (hx : PassesS CX X EE)
    (ha : PA X (e :: es) t) (hdb : (x == ("__debug__" : Str)) = false := by decide) (he : starEach (e :: es) X.env = (false, eval e X.env) :: starEach es X.env := by rfl) (hpl : (backTo pos (starEach es X.env)).any (·.1) = false := by rfl) :
    PE X (.Call (.Name x p) (e :: es) [] pos) (tCallS sp EE t) := by
  intro pins s σ H Q I h
  refine wpAny_Call_Name_kw (ld_glob I hg hm ?_ hdb)
  refine PySem.W.callWith_K (h₀ := X.base) I.ok.mod.kin hk (thn (ha pos pins s σ H _ I h) fun us s1 ⟨vs, H1, I1, r, q⟩ => ⟨I1.kIn, ?_⟩) he hpl
  have hl : (us ++ []).length = ps.length := by
    rw [List.append_nil, ← r.length]
    exact F.len _ _ _ _ q
  have hbd := hb s1 us I1.kIn hl
  rw [List.append_nil] at hbd
  refine wpAny_call (codeAny_mono (F.run X.A X.stack s1 H1 ⟨us, []⟩ us vs Q (EE σ) hr I1.env0 hbd r q) fun res s' hq => ?_)
  match res, hq with
  | .error y, hq => exact hx pins σ H1 s1 y s' I1 hq
  | .ok (.ret u), hq => exact I1.after hq
  | .ok .next, hq => exact hq.elim
  | .ok .brk, hq => exact hq.elim
  | .ok .cont, hq => exact hq.elim
end
/-- a promise without exceptions holds in any setting -/
theorem FnOk.lift {P : Program} {w : World} {K : PySem.W.Frag} {mg : Str → Option Value} {base : Heap} {CX : CXT} {k : Nat} {f : Addr} {fd : FuncData} {ps : List Str} {sp : Sp} (F : FnOk P w K mg base CX0 k f fd ps sp) : FnOk P w K mg base CX k f fd ps sp :=
  ⟨F.len, fun A outer s H args us vs Q E hr e0 hb hv hs => codeAny_mono (F.run A outer s H args us vs Q E hr e0 hb hv hs) fun res s' hq => by
    match res, hq with
    | .error y, hq => exact False.elim hq
    | .ok (.ret u), hq => exact hq
    | .ok .next, hq => exact hq
    | .ok .brk, hq => exact hq
    | .ok .cont, hq => exact hq⟩
/-- two promises at once -/
theorem FnOk.or {P : Program} {w : World} {K : PySem.W.Frag} {mg : Str → Option Value} {base : Heap} {CX : CXT} {k : Nat} {f : Addr} {fd : FuncData} {ps : List Str} {sp sp' : Sp} (F : FnOk P w K mg base CX k f fd ps sp) (F' : FnOk P w K mg base CX k f fd ps sp') :
    FnOk P w K mg base CX k f fd ps (fun vs H Q E => sp vs H Q E ∨ sp' vs H Q E) :=
  ⟨fun vs H Q E h => h.elim (F.len vs H Q E) (F'.len vs H Q E), fun A outer s H args us vs Q E hr e0 hb hv hs => hs.elim (F.run A outer s H args us vs Q E hr e0 hb hv) (F'.run A outer s H args us vs Q E hr e0 hb hv)⟩
section
variable {P : Program} {w : World} {K : PySem.W.Frag} {mg : Str → Option Value} {base : Heap}
/-- a def that may raise: its body as a term of rules, and the reading of that term -/
theorem Fun.okW {x qual : Str} {st : Stmt} {f : Addr} {fd : FuncData} {N ps : List Str} {k : Nat} {sp : Sp} (F : Fun K x qual st f fd) (S : FnScope N ps (defScope st)) (len : ∀ vs H Q E, sp vs H Q E → vs.length = ps.length)
    (hbody : ∀ (cdv : Value) (A : Around) (outer : List Env) (s : Shared) (H : Hp) (vs : List V) (Q : VK) (E : XK), Room k (A.deeper (envOfC qual (defScope st) s.heap.objs.size f cdv)) → sp vs H Q E →
      ∃ t, PSs (cxOf (CXw P w) P w K mg base N qual (defScope st) f cdv A outer s H E) (defBody st) t ∧ t { nx := fun _ H' => Q .non H', rt := Q } (start N vs) H) : FnOk P w K mg base (CXw P w) (k + 1) f fd ps sp := by
  obtain ⟨oc, od, kV, doc, pm, an, cdv, ct, osl, rfl, lk, hcd⟩ := F.ex
  exact fn_of lk hcd S len fun A outer s H vs Q E hr hsp => hbody cdv A outer s H vs Q E hr hsp
theorem passS {N : List Str} {qual : Str} {scope : Scope} {f : Addr} {cd : Value} {A : Around} {outer : List Env} {s0 : Shared} {H0 : Hp} {E : XK} :
    PassesS (CXw P w) (cxOf (CXw P w) P w K mg base N qual scope f cd A outer s0 H0 E) (fun _ => E) := fun pins σ H s e s' I h => passW pins σ H s e s' I h
theorem pownW {N : List Str} {qual : Str} {scope : Scope} {f : Addr} {cd : Value} {A : Around} {outer : List Env} {s0 : Shared} {H0 : Hp} {E : XK} {CX : CXT} :
    PassesOwn (model P w) (cxOf CX P w K mg base N qual scope f cd A outer s0 H0 E).A (cxOf CX P w K mg base N qual scope f cd A outer s0 H0 E).env (cxOf CX P w K mg base N qual scope f cd A outer s0 H0 E).xe :=
  PassesOwn.leaving (Q₁ := fun e s'' => CX outer H0 s0 E e s'')
end
/-! ### classes of exceptions -/
/-- the classes behind an own one that comes from ValueError -/
abbrev bmV : List Value := [.type "ValueError", .type "Exception", .type "BaseException", .type "object"]
abbrev ExcV (K : PySem.W.Frag) (C : Addr) : Prop := PySem.W.excIn K C bmV "ValueError.__new__" = true
theorem ExcV.obj {K : PySem.W.Frag} {h : Heap} {C : Addr} (q : ExcV K C) (X : K.In h) : ∃ (nm qn : Str) (N : Addr) (bs bm : List Value) (hd : Bool) (sn : List Str) (sub : List Value) (ab : Bool) (col : Option Bool) (dd : Option Addr) (k0 k1 k2 k3 k5 : Option Value) (mN : Str → Option Value),
    h.get? C = some (excClassObj nm qn C N bs bm hd sn sub ab col dd k0 k1 k2 k3 k5 "ValueError.__new__") ∧ h.Ns N mN ∧ mN "__init__" = none ∧ OwnTail h bmV bm ∧ ∀ v b, PySem.W.mroIn K C v = some b → (Value.ref C :: bm).contains v = b := by
  unfold ExcV PySem.W.excIn at q
  split at q
  · rename_i d1 c1 s1 lk
    split at q
    · rename_i C2 bm z0 z1 z2 z3 id z5 em es
      simp only [Bool.and_eq_true, beq_iff_eq, Bool.not_eq_true'] at q
      obtain ⟨⟨⟨⟨⟨e1, e2⟩, nd⟩, tl⟩, ok⟩, ni⟩ := q
      subst e1 e2
      have esl : s1 = #[z0, z1, z2, z3, some (.builtin "ValueError.__new__"), z5] := by
        cases s1 with
        | mk l => exact congrArg Array.mk es
      subst esl
      cases c1 with
      | mk nm bs mro ns qn hd sn sub ab col del =>
        simp only at em nd ok ni
        subst em nd
        refine ⟨nm, qn, ns, bs, bm, hd, sn, sub, ab, col, d1, z0, z1, z2, z3, z5, _, X _ _ lk, .of_isNs (PySem.W.isNs_of_in X ok), PySem.W.nsMap_none_of_in X ok ni, PySem.W.tail_of_in X tl, fun v b e => ?_⟩
        unfold PySem.W.mroIn PySem.W.clsIn at e
        rw [lk] at e
        simp only [Option.bind_some, List.isEmpty_cons, Bool.false_eq_true, if_false, Option.some.injEq] at e
        exact e
    · cases q
  · cases q
/-! ### raise -/
/-- an exception made here reaches what is wanted -/
def MakesS (X : Cx) (EE : St → XK) : Prop := ∀ (pins : List (Addr × Obj)) (σ : St) (H : Hp) (s : Shared) (h' : Heap) (ea : Addr) (cls : Value) (args : List Value), Inv X pins σ H s → Heap.MadeExcOf s.heap h' ea cls args → EE σ cls (some ea) H → X.xe (.ref ea) { s with heap := h' }
/-- raise C(e) -/
def tRaise (C : Addr) (EE : St → XK) (te : TE) : TS := fun _ σ H => te σ H fun _ H1 => ∀ ea, H1 ea = none → EE σ (.ref C) (some ea) H1
theorem hnone {P : Program} {w : World} {H : Hp} {h : Heap} {a : Addr} (ok : HOk P w H h) (e : h.get? a = none) : H a = none := by
  cases q : H a with
  | none => rfl
  | some u =>
    obtain ⟨o, z⟩ := (ok a u q).there
    rw [e] at z
    cases z
section
variable {X : Cx} {x : Str} {C : Addr} {np cpos pos : Pos} {e : Expr} {te : TE} {EE : St → XK}
theorem ps_raise (hc : X.calm = true) (hg : Gl X x) (hm : X.mg x = some (.ref C)) (hx : ExcV X.K C) (hr : MakesS X EE) (ha : PE X e te) (hdb : (x == ("__debug__" : Str)) = false := by decide) (he : starEach [e] X.env = (false, eval e X.env) :: starEach [] X.env := by rfl) :
    PS X (.Raise (some (.Call (.Name x np) [e] [] cpos)) none pos) (tRaise C EE te) := by
  intro pins s σ H D I h
  obtain ⟨nm, qn, N, bs, bm, hd, sn, sub, ab, col, dd, k0, k1, k2, k3, k5, mN, a1, a2, hni, tl0, -⟩ := hx.obj I.ok.mod.kin
  refine wpAny_Raise_call_subT (C := C) (nm := nm) (q := qn) (N := N) (bs := bs) (bm := bm) (hdct := hd) (sn := sn) (sub := sub) (ab := ab) (col := col) (dd := dd) (k0 := k0) (k1 := k1) (k2 := k2) (k3 := k3) (k5 := k5) (mN := mN) F.excBase_ValueError
    (tl0.hasType (by decide)) (I.ok.hd hc) (by rw [he]; rfl) hni (ld_glob I hg hm ⟨rfl, ?_⟩ hdb)
  rw [he]
  refine PySem.Calls.evalArgs_plain (Calls.spliced_cons (thn (ha pins s σ H _ I h) fun u s1 ⟨v, H1, I1, r, q⟩ => Calls.spliced_nil ?_))
  exact ⟨rfl, (by show 1 ≤ sizeLine; decide), I1.bk _ _ a1, a2.keeps I1.bk, tl0.keeps I1.bk, fun h' ea hx' => hr pins σ H1 s1 h' ea _ _ I1 hx' (q ea (hnone I1.hok hx'.new))⟩
end
section
variable {P : Program} {w : World}
theorem madeW {K : PySem.W.Frag} {mg : Str → Option Value} {base : Heap} {N : List Str} {qual : Str} {scope : Scope} {f : Addr} {cd : Value} {A : Around} {outer : List Env} {s0 : Shared} {H0 : Hp} {E : XK} :
    MakesS (cxOf (CXw P w) P w K mg base N qual scope f cd A outer s0 H0 E) (fun _ => E) := by
  intro pins σ H s h' ea cls args I hm q
  have efr : frs (cxOf (CXw P w) P w K mg base N qual scope f cd A outer s0 H0 E).stack = s0.heap.objs.size :: frs outer := rfl
  refine wpAny_leaves_madeW (base := PySem.W.hideAll s.heap (frs (cxOf (CXw P w) P w K mg base N qual scope f cd A outer s0 H0 E).stack)) (h := s.heap) I.ok.frames (show (envOfC qual scope s0.heap.objs.size f cd).frame = some s0.heap.objs.size from rfl) (fun b o e => PySem.W.of_hideAll _ e)
    (PySem.W.funFrames_hide I.stack fun env he a ha => List.mem_filterMap.mpr ⟨env, he, ha⟩) hm fun h2 t hfl _ _ sm => ?_
  have nf : ∀ b ∈ frs (cxOf (CXw P w) P w K mg base N qual scope f cd A outer s0 H0 E).stack, ∃ o, h'.get? b = some o ∧ ∀ vs, o.data ≠ .fields vs := fun b m => by
    obtain ⟨_, o, e, nd⟩ := I.stack.mem m
    exact ⟨o, hm.keeps b o e, nd⟩
  have R := Fly.step (P := P) (w := w) (l := (cxOf (CXw P w) P w K mg base N qual scope f cd A outer s0 H0 E).stack) (l0 := outer) (h1 := h') I.base (Un.kept hm.keeps) (I.hok.kept hm.keeps) I.stkFree (fun b m => by
      obtain ⟨_, o, e, _⟩ := I.stack.mem m
      exact ⟨o, e⟩) (fun b o e m => by
      rw [efr] at m
      rcases List.mem_cons.mp m with z | z
      · subst z
        exact absurd (Heap.lt_size e) (Nat.lt_irrefl _)
      · exact z) (fun b m => by rw [efr]; exact List.mem_cons_of_mem _ m) nf (fun b o e nb => by
        cases qb : s.heap.get? b with
        | some o2 =>
          have := hm.keeps b o2 qb
          rw [e] at this
          cases this
          exact .inl (PySem.W.hideAll_get _ qb nb)
        | none => exact .inr ⟨rfl, hnone I.hok qb⟩) hfl.1 sm
  have eN : ∀ o, s0.heap.get? ea = some o → False := fun o z => by
    obtain ⟨o1, e1⟩ := I.base.there ea o z (fun y => by cases y)
    rw [hm.new] at e1
    cases e1
  refine ⟨ea, cls, H, rfl, I.os, I.bare, ⟨R.1, R.2.1, ?_, hnone I.hok hm.new, _, t, hfl, R.2.2⟩, q⟩
  cases z : s0.heap.get? ea with
  | none => rfl
  | some o => exact (eN o z).elim
end
end L2

namespace L2
open PySem PySem.Spec PyProof.Rows
/-! ### try with handlers -/
section
variable {X : Cx} {pins pins' : List (Addr × Obj)} {σ : St} {H H' : Hp} {s s3 : Shared}
/-- the exception is caught in this frame -/
def Caught (X : Cx) (pins : List (Addr × Obj)) (EE : St → XK) (e : Value) (s3 : Shared) : Prop :=
  ∃ (σ : St) (s0 : Shared) (H H' : Hp) (ea : Addr) (cls : Value), e = .ref ea ∧ Inv X pins σ H s0 ∧ s3.os = s0.os ∧ AllBare s3.gens ∧ Fly X.prog X.w X.stack H s0.heap ea cls H' s3.heap ∧ EE σ cls (some ea) H'
/-- a try's body: what it raises is looked at, and taken up by K -/
abbrev xTry (X : Cx) (pins : List (Addr × Obj)) (K : Value → Shared → Prop) : Cx :=
  { X with pn := X.pn ++ pins, xe := fun e s₁ => wpAny (model X.prog X.w) X.A (noteFrame e X.env) (fun _ s₂ => wpAny (model X.prog X.w) X.A (setFlight e none) (fun _ s₃ => K e s₃) X.xe s₂) X.xe s₁ }
theorem Inv.xtry (I : Inv X pins σ H s) (K : Value → Shared → Prop) : Inv (xTry X pins K) [] σ H s :=
  ⟨⟨I.ok.mod, I.ok.kind, I.ok.glob, I.ok.blt, I.ok.above, I.ok.inj, I.ok.has, I.ok.cab, I.ok.hd, I.ok.frames, I.ok.stk, I.ok.exf, I.ok.bs, I.ok.bsz, I.ok.noex, I.ok.exfs, I.ok.funs, I.ok.frf⟩,
    I.os, I.bare, I.base, I.loc, I.cell, I.free, I.freeC, fun p hp => I.pin p (by simpa using hp), I.hok, I.len⟩
theorem Inv.ofTry {K : Value → Shared → Prop} (I : Inv (xTry X pins K) pins' σ H s) : Inv X pins σ H s :=
  ⟨⟨I.ok.mod, I.ok.kind, I.ok.glob, I.ok.blt, I.ok.above, I.ok.inj, I.ok.has, I.ok.cab, I.ok.hd, I.ok.frames, I.ok.stk, I.ok.exf, I.ok.bs, I.ok.bsz, I.ok.noex, I.ok.exfs, I.ok.funs, I.ok.frf⟩,
    I.os, I.bare, I.base, I.loc, I.cell, I.free, I.freeC, fun p hp => I.pin p (List.mem_append_left _ hp), I.hok, I.len⟩
theorem SP.ofTry {K : Value → Shared → Prop} {D : Ends} {f : Flow} (h : SP (xTry X pins K) pins' D f s) : SP X pins D f s := by
  cases f with
  | next => obtain ⟨σ', H', I, q⟩ := h; exact ⟨σ', H', I.ofTry, q⟩
  | brk => obtain ⟨σ', H', I, q⟩ := h; exact ⟨σ', H', I.ofTry, q⟩
  | cont => obtain ⟨σ', H', I, q⟩ := h; exact ⟨σ', H', I.ofTry, q⟩
  | ret u => obtain ⟨v, σ', H', I, r, q⟩ := h; exact ⟨v, σ', H', I.ofTry, r, q⟩
/-- in one frame: the heap turns, what B holds stays -/
theorem Fly.turn {h1 h' : Heap} {ea : Addr} {cls : Value} (I : Inv X pins σ H s) (F : Fly X.prog X.w X.stack H s.heap ea cls H' h1) {B : Heap} {t : Addr} (hfl : Heap.FlyingW B X.stack ea cls (.ref t) h1)
    (held : ∀ b o, h1.get? b = some o → b ∉ frs X.stack → B.get? b = some o ∨ (s.heap.get? b = none ∧ H' b = none)) (hfl' : Heap.FlyingW B X.stack ea cls (.ref t) h') (sm : h1.UpToSlots h') : Fly X.prog X.w X.stack H s.heap ea cls H' h' := by
  have R := Fly.step (P := X.prog) (w := X.w) (l := X.stack) (l0 := X.stack) (H0 := H) (h0 := s.heap) Un.refl F.un F.hok I.stkFree (fun b m => let ⟨_, o, e, _⟩ := I.stack.mem m; ⟨o, e⟩) (fun _ _ _ m => m) (fun _ m => m) (fun b m => (hfl.2.2.1.mem m).2) held hfl'.1 sm
  exact ⟨R.1, R.2.1, F.new, F.free, B, t, hfl', R.2.2⟩
/-- this body's own frame lies on the stack -/
def Own (X : Cx) : Prop := X.stack = X.env :: X.outer ∧ X.env.frame = some X.env.locals
theorem passT {EE : St → XK} (ho : Own X) : PassesS (CXw X.prog X.w) (xTry X pins (Caught X pins EE)) EE := by
  intro pins' σ H s e s' I hc
  obtain ⟨ea, cls, H', rfl, os, bare, F, q⟩ := hc
  obtain ⟨B, t, hfl, held⟩ := F.fly
  have J := I.ofTry
  have hfl0 := hfl
  rw [show (xTry X pins (Caught X pins EE)).stack = X.env :: X.outer from ho.1] at hfl0
  refine wpAny_looks_onW (J.ok.frames.trans (congrArg some ho.1)) ho.2 hfl0 fun h4 held4 sm4 => wpAny_landsW held4 fun h5 hfl5 sm5 => ?_
  rw [← ho.1] at hfl5
  exact ⟨σ, s, H, H', ea, cls, rfl, J, os, bare, Fly.turn J F hfl held hfl5 (sm4.trans sm5), q⟩
/-- what the handlers do with the exception of class cls at ea -/
abbrev TH := Value → Addr → TS
def PH (X : Cx) (hs : List ExceptHandler) (th : TH) : Prop := ∀ (pins : List (Addr × Obj)) (σ : St) (s0 : Shared) (H H' : Hp) (ea : Addr) (cls : Value) (s3 : Shared) (D : Ends), Inv X pins σ H s0 → s3.os = s0.os → AllBare s3.gens →
  Fly X.prog X.w X.stack H s0.heap ea cls H' s3.heap → th cls ea D σ H' → wpAny (model X.prog X.w) X.A (handleBy (.ref ea) X.env hs) (SP X pins D) X.xe s3
def tTry (tb : (St → XK) → TS) (th : TH) : TS := fun D σ H => tb (fun σ' cls a H' => ∃ ea, a = some ea ∧ th cls ea D σ' H') D σ H
theorem ps_try {body : List Stmt} {h0 : ExceptHandler} {hs : List ExceptHandler} {pos : Pos} {tb : (St → XK) → TS} {th : TH} (hb : ∀ pins EE, PSs (xTry X pins (Caught X pins EE)) body (tb EE)) (hh : PH X (h0 :: hs) th) :
    PS X (.Try body (h0 :: hs) [] [] pos) (tTry tb th) := by
  intro pins s σ H D I h
  refine wpAny_Try_except (wpAny_mono (hb pins _ [] s σ H D (I.xtry _) h) (fun f s1 q => ?_) fun e s1 q => wpAny_mono q (fun _ s2 q2 => wpAny_mono q2 (fun _ s3 q3 => ?_) fun _ _ y => y) fun _ _ y => y)
  · cases f with
    | next => exact wpAny_execs_nil q.ofTry
    | brk => exact q.ofTry
    | cont => exact q.ofTry
    | ret u => exact q.ofTry
  · obtain ⟨σ1, s0, H0, H1, ea, cls, rfl, I0, os, bare, F, ea', z, q⟩ := q3
    cases z
    exact hh pins σ1 s0 H0 H1 ea cls s3 D I0 os bare F q
/-- does an exception of class C match the class at D -/
theorem matches_own {M : Model} {A : Around} {E : Value → Shared → Prop} {K : PySem.W.Frag} {C D ea : Addr} {oe : Obj} {b : Bool} {Q : Bool → Shared → Prop} (KX : K.In s.heap) (hC : ExcV K C) (hD : ExcV K D) (he : s.heap.get? ea = some oe) (hc : oe.cls = .ref C)
    (hm : PySem.W.mroIn K C (.ref D) = some b) (hq : Q b s) : wpAny M A (excMatches (.ref ea) (.ref D)) Q E s := by
  obtain ⟨nm, qn, N, bs, bm, hd, sn, sub, ab, col, dd, k0, k1, k2, k3, k5, mN, a1, -, -, -, con⟩ := hC.obj KX
  obtain ⟨nm', qn', N', bs', bm', hd', sn', sub', ab', col', dd', k0', k1', k2', k3', k5', mN', b1, -, -, tl, -⟩ := hD.obj KX
  have c1 := con _ _ hm
  have c2 : (Value.ref D :: bm').contains (.type "BaseException") = true := by
    rw [List.contains_cons, tl.hasType (show bmV.contains (.type "BaseException") = true by decide), Bool.or_true]
  obtain ⟨h, g, d, tk, os⟩ := s
  have f := tc_notTuple
  unfold excMatches
  repeat (first | (with_reducible refine wpAny_loadPart_at he ?_; rw [hc]) | with_reducible refine wpAny_loadPart_at b1 ?_ | (with_reducible refine wpAny_isSubtype_exc b1 ?_; rw [c2]) | (with_reducible refine wpAny_isSubtype_exc a1 ?_; rw [c1]) | wp_step)
  cases b <;> (wp_walk; exact hq)
/-- a handler's suite: the exception at ea is handled -/
abbrev xSuite (X : Cx) (ea : Addr) : Cx :=
  { X with A := X.A.mark (some (.ref ea)), calm := false, xe := notedBy (model X.prog X.w) (X.A.mark (some (.ref ea))) X.env (cameBackBy (model X.prog X.w) X.A X.env X.xe) }
theorem Inv.suite {ea : Addr} (I : Inv X pins σ H s) : Inv (xSuite X ea) pins σ H s :=
  ⟨⟨I.ok.mod, I.ok.kind, I.ok.glob, I.ok.blt, I.ok.above, I.ok.inj, I.ok.has, I.ok.cab, (fun z => by cases z), I.ok.frames, I.ok.stk, I.ok.exf, I.ok.bs, I.ok.bsz, I.ok.noex, I.ok.exfs, I.ok.funs, I.ok.frf⟩,
    I.os, I.bare, I.base, I.loc, I.cell, I.free, I.freeC, I.pin, I.hok, I.len⟩
theorem Inv.ofSuite {ea : Addr} (ok : X.Ok) (I : Inv (xSuite X ea) pins σ H s) : Inv X pins σ H s := ⟨ok, I.os, I.bare, I.base, I.loc, I.cell, I.free, I.freeC, I.pin, I.hok, I.len⟩
theorem SP.ofSuite {ea : Addr} {D : Ends} {f : Flow} (ok : X.Ok) (h : SP (xSuite X ea) pins D f s) : SP X pins D f s := by
  cases f with
  | next => obtain ⟨σ', H', I, q⟩ := h; exact ⟨σ', H', I.ofSuite ok, q⟩
  | brk => obtain ⟨σ', H', I, q⟩ := h; exact ⟨σ', H', I.ofSuite ok, q⟩
  | cont => obtain ⟨σ', H', I, q⟩ := h; exact ⟨σ', H', I.ofSuite ok, q⟩
  | ret u => obtain ⟨v, σ', H', I, r, q⟩ := h; exact ⟨v, σ', H', I.ofSuite ok, r, q⟩
theorem Fly.inv {ea : Addr} {cls : Value} (I : Inv X pins σ H s) (os : s3.os = s.os) (bare : AllBare s3.gens) (F : Fly X.prog X.w X.stack H s.heap ea cls H' s3.heap) : Inv X pins σ H' s3 :=
  I.call' os F.un F.hok bare fun b z => by cases z
/-- except D: .. -/
def hOwn (K : PySem.W.Frag) (D : Addr) (ts : Addr → TS) (tr : TH) : TH := fun cls ea Dd σ H => ∃ C b, cls = .ref C ∧ ExcV K C ∧ PySem.W.mroIn K C (.ref D) = some b ∧ if b = true then ts ea Dd σ H else tr cls ea Dd σ H
def hNone : TH := fun _ _ _ _ _ => False
theorem ph_none : PH X [] hNone := fun _ _ _ _ _ _ _ _ _ _ _ _ _ h => h.elim
theorem ph_own {x : Str} {np pos : Pos} {b0 : Stmt} {suite : List Stmt} {rest : List ExceptHandler} {D : Addr} {ts : Addr → TS} {tr : TH} (hg : Gl X x) (hm : X.mg x = some (.ref D)) (hD : ExcV X.K D) (hs : ∀ ea, PSs (xSuite X ea) (b0 :: suite) (ts ea)) (hr : PH X rest tr)
    (hd : (x == ("__debug__" : Str)) = false := by decide) : PH X (.ExceptHandler (some (.Name x np)) none (b0 :: suite) pos :: rest) (hOwn X.K D ts tr) := by
  intro pins σ s0 H H' ea cls s3 Dd I0 os bare F h
  obtain ⟨C, b, rfl, hC, hmr, h⟩ := h
  have I3 := Fly.inv I0 os bare F
  obtain ⟨B, t, hfl, held⟩ := F.fly
  obtain ⟨oe, hoe, hoc⟩ := hfl.there
  refine wpAny_handleBy_cons (codeAny_handlers_test (ld_glob (X := xSuite X ea) I3.suite hg hm (matches_own I3.kIn hC hD hoe hoc hmr ?_) hd)) (by intro q; cases q)
  cases b with
  | false =>
    rw [if_neg (by decide)] at h
    exact hr pins σ s0 H H' ea _ s3 Dd I0 os bare F h
  | true =>
    rw [if_pos rfl] at h
    refine codeAny_handlers_suite (lands_againW hfl fun h6 hfl6 sm6 => ?_)
    have F6 := Fly.turn I0 F hfl held hfl6 sm6
    have I6 := Fly.inv (s3 := { s3 with heap := h6 }) I0 os bare F6
    exact wpAny_mono (hs ea pins _ σ H' Dd I6.suite h) (fun f s4 q => q.ofSuite I6.ok) fun _ _ y => y
/-- the object at a is an exception of the class at C -/
def ExO (a C : Addr) : HO := .ext fun h => ∃ o vs, h.get? a = some o ∧ o.cls = .ref C ∧ o.data = .fields vs
theorem Inv.track {ea C : Addr} (I0 : Inv X pins σ H s) (I3 : Inv X pins σ H' s3) (new : s.heap.get? ea = none) (hn : H' ea = none) (hx : ∃ o vs, s3.heap.get? ea = some o ∧ o.cls = .ref C ∧ o.data = .fields vs) :
    Inv X pins σ (upd H' ea (ExO ea C)) s3 := by
  have ne : ∀ b o, s.heap.get? b = some o → b ≠ ea := fun b o e z => by
    rw [z, new] at e
    cases e
  have ne0 : ∀ b o, X.s₀.heap.get? b = some o → b ∉ X.ex → b ≠ ea := fun b o e hx => by
    obtain ⟨o', e'⟩ := I0.base.there b o e hx
    exact ne b o' e'
  refine ⟨I3.ok, I3.os, I3.bare, ⟨I3.base.keep, I3.base.slot, fun b o e n hx => by rw [upd_ne (ne0 b o e hx)]; exact I3.base.free b o e n hx, I3.base.there, fun b xs q => ?_, fun b o u q => ?_, fun b ps q => ?_⟩, I3.loc, I3.cell, ?_, fun x c e => ?_, fun p hp => ?_, fun b u q => ?_, I3.len⟩
  · have z := I3.base.tups b xs q
    rw [upd_ne (ne_of_none z hn)]
    exact z
  · have z := I3.base.frzs b o u q
    rw [upd_ne (ne_of_none z hn)]
    exact z
  · obtain ⟨m, z⟩ := I3.base.tbls b ps q
    exact ⟨m, by rw [upd_ne (ne_of_none z hn)]; exact z⟩
  · obtain ⟨m, ⟨o, _, _, ho, _⟩, _⟩ := I0.loc
    rw [upd_ne (ne _ o ho)]
    exact I3.free
  · obtain ⟨v, o, ho, _⟩ := I0.cell x c e
    rw [upd_ne (ne _ o ho)]
    exact I3.freeC x c e
  · obtain ⟨e, n, r⟩ := I3.pin p hp
    rw [upd_ne (ne _ _ (I0.pin p hp).1)]
    exact ⟨e, n, r⟩
  · by_cases hb : b = ea
    · subst hb
      rw [upd_same] at q
      cases q
      obtain ⟨o, vs, e1, e2, e3⟩ := hx
      exact ⟨⟨o, vs, e1, e2, e3⟩, ⟨o, e1⟩, fun h1 h2 ⟨o, vs, a1, a2, a3⟩ k => ⟨o, vs, k o a1, a2, a3⟩⟩
    · rw [upd_ne hb] at q
      exact (I3.hok b u q).stay (fun _ _ _ e => e) (fun c z => by rw [upd_ne (ne_of_none z hn)]; exact z) fun c xs z => by rw [upd_ne (ne_of_none z hn)]; exact z
end
end L2

namespace L2
open PySem PySem.Spec PyProof.Rows
section
variable {X : Cx} {pins : List (Addr × Obj)} {σ : St} {H H' : Hp} {s s3 : Shared}
/-- a name goes -/
theorem Inv.gone {i : Nat} {x : Str} {v : Option Value} {m : Str → Option Value} {h' : Heap} {tk : Nat} (I : Inv X pins σ H s) (hN : X.N.Nodup) (hi : X.N[i]? = some x) (hn : s.heap.Ns X.env.locals m)
    (hn' : h'.Ns X.env.locals (fun y => if y = x then v else m y)) (hs : Heap.SameBut X.env.locals s.heap h') : Inv X pins (σ.set i none) H { s with heap := h', toks := tk } := by
  have ne : ∀ b u, H b = some u → b ≠ X.env.locals := fun b u e z => by
    rw [z, I.free] at e
    cases e
  have neL : ∀ b o, X.s₀.heap.get? b = some o → b ≠ X.env.locals := fun b o e => Nat.ne_of_lt (Nat.lt_of_lt_of_le (Heap.lt_size e) I.ok.above)
  have cellK : ∀ y c, X.env.cells.lookup y = some c → ∀ z, s.heap.IsCell c z → h'.IsCell c z := fun y c e z ⟨o, ho, hd⟩ => ⟨o, (hs.2 c (I.cne y c e)).trans ho, hd⟩
  refine ⟨I.ok, I.os, I.bare, ⟨fun b o e n hb hx => (hs.2 b (neL b o e)).trans (I.base.keep b o e n hb hx), fun b o e n hb hx => ?_, I.base.free, fun b o e hx => ?_, I.base.tups, I.base.frzs, I.base.tbls⟩, ⟨_, hn', fun j y w e1 e2 e3 => ?_⟩, fun y c e => ?_, I.free, I.freeC,
    fun p hp => ?_, fun b u q => ?_, by rw [List.length_set]; exact I.len⟩
  · obtain ⟨sl, z⟩ := I.base.slot b o e n hb hx
    exact ⟨sl, (hs.2 b (neL b o e)).trans z⟩
  · obtain ⟨o', z⟩ := I.base.there b o e hx
    exact ⟨o', (hs.2 b (neL b o e)).trans z⟩
  · have hij : i ≠ j := fun z => by
      subst z
      rw [List.getElem?_set_self'] at e2
      cases q : σ[i]? with
      | none => rw [q] at e2; cases e2
      | some a => rw [q] at e2; cases e2
    rw [List.getElem?_set_ne hij] at e2
    obtain ⟨m2, hm2, hl⟩ := I.loc
    obtain ⟨u, r, l⟩ := hl j y w e1 e2 e3
    refine ⟨u, r, ?_⟩
    have em : m2 = m := by
      obtain ⟨o1, es1, ep1, g1, d1, _, f1⟩ := hm2
      obtain ⟨o2, es2, ep2, g2, d2, _, f2⟩ := hn
      rw [g1] at g2
      cases g2
      rw [d1] at d2
      cases d2
      funext z
      rw [← f1 z, ← f2 z]
    subst em
    have yx : y ≠ x := fun z => hij (nodup_ix hN hi (z ▸ e1))
    rcases l with ⟨k, l⟩ | ⟨k, c, e, z⟩
    · exact .inl ⟨k, (if_neg yx).trans l⟩
    · exact .inr ⟨k, c, e, cellK y c e _ z⟩
  · obtain ⟨w, z⟩ := I.cell y c e
    exact ⟨w, cellK y c e w z⟩
  · obtain ⟨e, n, r1, r2⟩ := I.pin p hp
    exact ⟨(hs.2 p.1 r1).trans e, n, r1, r2⟩
  · refine (I.hok b u q).stay (fun c w hc e => ?_) (fun _ z => z) fun _ _ z => z
    have hc' : c ≠ X.env.locals := by
      rcases hc with rfl | hc
      · exact ne _ _ q
      · exact ne _ _ hc
    exact (hs.2 c hc').trans e
/-- except D as n: .. in which nothing is raised -/
def hAs (K : PySem.W.Frag) (D : Addr) (i : Nat) (ts : Addr → TS) (tr : TH) : TH := fun cls ea Dd σ H => ∃ C b, cls = .ref C ∧ ExcV K C ∧ PySem.W.mroIn K C (.ref D) = some b ∧
  if b = true then H ea = none → ts ea { nx := fun σ' => Dd.nx (σ'.set i none), bk := fun σ' => Dd.bk (σ'.set i none), ct := fun σ' => Dd.ct (σ'.set i none), rt := Dd.rt } (σ.set i (some (.ref ea))) (upd H ea (ExO ea C)) else tr cls ea Dd σ H
theorem ph_as {x n : Str} {i : Nat} {np pos : Pos} {b0 : Stmt} {suite : List Stmt} {rest : List ExceptHandler} {D : Addr} {ts : Addr → TS} {tr : TH} (hg : Gl X x) (hm : X.mg x = some (.ref D)) (hD : ExcV X.K D) (hN : X.N.Nodup) (hi : X.N[i]? = some n) (hl : X.env.kindOf n = some .local)
    (hs : ∀ ea, PSs (xSuite X ea).nox (b0 :: suite) (ts ea)) (hr : PH X rest tr) (hd : (x == ("__debug__" : Str)) = false := by decide) : PH X (.ExceptHandler (some (.Name x np)) (some n) (b0 :: suite) pos :: rest) (hAs X.K D i ts tr) := by
  intro pins σ s0 H H' ea cls s3 Dd I0 os bare F h
  obtain ⟨C, b, rfl, hC, hmr, h⟩ := h
  have I3 := Fly.inv I0 os bare F
  obtain ⟨B, t, hfl, held⟩ := F.fly
  obtain ⟨oe, hoe, hoc⟩ := hfl.there
  refine wpAny_handleBy_cons (codeAny_handlers_test (ld_glob (X := xSuite X ea) I3.suite hg hm (matches_own I3.kIn hC hD hoe hoc hmr ?_) hd)) (by intro q; cases q)
  cases b with
  | false =>
    rw [if_neg (by decide)] at h
    exact hr pins σ s0 H H' ea _ s3 Dd I0 os bare F h
  | true =>
    rw [if_pos rfl] at h
    refine codeAny_handlers_suite_as (lands_againW hfl fun h6 hfl6 sm6 => ?_)
    have F6 := Fly.turn I0 F hfl held hfl6 sm6
    have I6 := Fly.inv (s3 := { s3 with heap := h6 }) I0 os bare F6
    have T6 := Inv.track I0 I6 F6.new F6.free (by
      obtain ⟨_, _, _, o6, v6, _, _, _, z1, z2, z3, _⟩ := hfl6
      exact ⟨o6, v6, z1, z2.1, z3⟩)
    refine store_ok (X := xSuite X ea) T6.suite hN hi (.inl hl) (show RelV (.ref ea) (.ref ea) from rfl) (fun s7 I7 => ?_) (.inr hl)
    refine wpAny_mono (hs ea pins s7 _ _ _ (I7.wish _) (h F.free)) (fun f s8 q => ?_) fun _ _ y => y.elim
    have key : ∀ {σ8 : St} {H8 : Hp}, Inv (xSuite X ea).nox pins σ8 H8 s8 → ∀ (R : Shared → Prop), (∀ s9, Inv X pins (σ8.set i none) H8 s9 → R s9) → wpAny (model X.prog X.w) X.A (do bindName X.env n .none; unbindBehindTheSuite X.env n pos) (fun _ s9 => R s9) X.xe s8 := fun I8 R hR => by
      have J8 : Inv X pins _ _ s8 := Inv.ofSuite I6.ok I8.unwish
      obtain ⟨m, hn, _⟩ := id J8.loc
      exact wpAny_nameGoes_keeps hl hn (by rw [J8.ok.kind]; rfl) fun h' v hn' hsb => hR _ (J8.gone hN hi hn hn' hsb)
    cases f with
    | next => obtain ⟨σ8, H8, I8, q⟩ := q; exact key I8 _ fun s9 I9 => ⟨_, H8, I9, q⟩
    | brk => obtain ⟨σ8, H8, I8, q⟩ := q; exact key I8 _ fun s9 I9 => ⟨_, H8, I9, q⟩
    | cont => obtain ⟨σ8, H8, I8, q⟩ := q; exact key I8 _ fun s9 I9 => ⟨_, H8, I9, q⟩
    | ret u => obtain ⟨w, σ8, H8, I8, r, q⟩ := q; exact key I8 _ fun s9 I9 => ⟨w, _, H8, I9, r, q⟩
end
end L2

namespace L2
open PySem PySem.Spec PyProof.Rows PySem.W Builtin Builtin.ObjectAttr Builtin.Getset_descriptor
/-! ### isinstance of a caught exception -/
/-- what the text says of a class of exceptions -/
structure ExcA (K : PySem.W.Frag) (C : Addr) : Prop where
  ga : PySem.W.findIn K (.ref C) "__getattribute__" = some (some (.builtin "BaseException.__getattribute__"))
  hook : PySem.W.findIn K (.ref C) "__getattr__" = some none
  cl : PySem.W.findIn K (.ref C) "__class__" = some (some (.builtin "object.__class__"))
  ob : PySem.W.mroIn K C (.type "object") = some true
  be : PySem.W.mroIn K C (.type "BaseException") = some true
  gt : PySem.W.specialIn K (.builtin "object.__class__") "__get__" = some (some (.builtin "getset_descriptor.__get__"))
  tk : PySem.W.takesIn K (.builtin "object.__class__") = some true
def IsExc (a C : Addr) (h : Heap) : Prop := ∃ o vs, h.get? a = some o ∧ o.cls = .ref C ∧ o.data = .fields vs
section
variable {K : PySem.W.Frag} {M : Model} {h : Heap} {a C : Addr}
theorem exc_type (x : IsExc a C h) : Looks M h (typeOf (.ref a)) (.ref C) := by
  obtain ⟨o, _, e, c, _⟩ := x
  exact c ▸ (Looks.ld e).andThen .now
theorem exc_find (KX : K.In h) (A : ExcA K C) : Looks M h (Builtin.ObjectAttr.find (.ref a) (.ref C) "__class__") (.bind (.builtin "getset_descriptor.__get__") (.builtin "object.__class__")) := by
  have l1 := PySem.W.looks_findIn (M := M) KX A.cl
  have l2 : Looks M h (Builtin.ObjectAttr.getOf (some (.builtin "object.__class__"))) (some (.builtin "getset_descriptor.__get__")) := PySem.W.looks_specialIn KX A.gt
  have l3 : Looks M h (Builtin.ObjectAttr.dataDescriptor? (some (.builtin "object.__class__")) (some (.builtin "getset_descriptor.__get__"))) (some (.builtin "getset_descriptor.__get__", .builtin "object.__class__")) := (PySem.W.looks_takesIn KX A.tk).andThen .now
  exact l1.andThen (l2.andThen (l3.andThen (Looks.tag .now)))
end
section
variable {prog : Program} {w : World} {A : Around} {E : Value → Shared → Prop} {K : PySem.W.Frag} {a C : Addr}
theorem exc_class {Q : Option Value → Shared → Prop} {s : Shared} (KX : K.In s.heap) (Z : ExcA K C) (x : IsExc a C s.heap) (h : Q (some (.ref C)) { s with toks := s.toks + 1 }) : wpAny (model prog w) A (getAttr? (.ref a) "__class__") Q E s := by
  obtain ⟨hh, g, d, t, os⟩ := s
  have l0 := exc_type (M := model prog w) x
  have l1 := PySem.W.looks_findIn (M := model prog w) KX Z.ga
  have l2 := PySem.W.looks_findIn (M := model prog w) KX Z.hook
  have l3 := PySem.W.looks_mroIn (M := model prog w) KX Z.be
  have l4 := PySem.W.looks_mroIn (M := model prog w) KX Z.ob
  have l5 := exc_find (M := model prog w) (a := a) KX Z
  unfold getAttr? getAttrBy? getAttrBy
  refine wpAny_bind (wpAny_mkText (wpAny_bind (wpAny_attempt (wpAny_holding (wpAny_bind (l0.at (wpAny_bind (l1.at ?_))))))))
  show wpAny _ _ (getAttrByItsOwn _ _ _ _ _ _) _ _ _
  have ex : (onTheHeap (Value.ref C)) = true := rfl
  unfold getAttrByItsOwn hookBefore
  rw [if_pos ex]
  refine wpAny_bind (l2.at (wpAny_bind (wpAny_attempt (wpAny_holding ?_))))
  show wpAny _ _ (boundAndCalled _ _ _) _ _ _
  unfold boundAndCalled
  refine wpAny_bind (wpAny_of_eq (PySem.F.attr_ValueError.ga.bind _) ?_)
  refine wpAny_call (codeAny_call_builtin PySem.F.attr_ValueError.ga.plain F.entry_bexc_ga ?_)
  have kd : builtinKind "BaseException.__getattribute__" = some .slot := by decide +kernel
  have sp : splitId "BaseException.__getattribute__" = some ("BaseException", "__getattribute__") := by decide +kernel
  have ag := F.args_bexc_ga (.ref a) (.str "__class__" t)
  simp only [checkBuiltinCall, kd, sp]
  refine wpAny_bind ?_
  unfold isInstance
  repeat (first | with_reducible refine wpAny_call ?_ | lk | wp_step)
  refine codeAny_call_builtin KF.slot_gs.plain KF.entry_gs
    (KF.slot_gs.check _ _ _ _ _ _ _ _ KF.type_class (KF.args_gs _ _ _) ?_)
  unfold Builtin.«getset_descriptor.__get__» descrGet
  rw [dga_obj]
  refine wpAny_bind (wpAny_pure (show wpAny _ _ _ _ _ _ from ?_))
  unfold descrGetter descrCheckInstance descrNameAndClass isInstance
  simp only [KF.owner_class]
  repeat lk
  refine ⟨Code.quiet_builtin _ (by decide +kernel), codeAny_builtin KF.entry_class ?_⟩
  unfold Builtin.«object.__class__» shownTypeOf
  repeat lk
  exact h
theorem exc_kit (Z : ExcA K C) (hC : ExcV K C) : PySem.W.KitX K (.ref a) (.ref C) (IsExc a C) where
  ty := fun _ _ _ x => exc_type x
  it := fun _ _ KX _ => by
    obtain ⟨_, _, _, _, _, _, _, _, _, _, _, _, _, _, _, _, _, e, _⟩ := hC.obj KX
    intro A Q E s k q
    unfold isType loadHead
    exact wpAny_bind (wpAny_loadPart (k _ _ e) (wpAny_pure q))
  ne := fun h tp dd its n sl KX e => by
    obtain ⟨_, _, _, _, _, _, _, _, _, _, _, _, _, _, _, _, _, e2, _⟩ := hC.obj KX
    refine Bool.eq_false_iff.mpr fun q => ?_
    have z : C = tp := Value.ref.inj (beq_iff_eq.mp q)
    subst z
    exact Bool.noConfusion (congrArg (fun o : Option Obj => match o with | some ⟨_, _, .cls _, _⟩ => true | _ => false) (e2.symm.trans e))
  ca := fun KX x k => exc_class KX Z x k
end
section
variable {X : Cx}
/-- isinstance(e, D), e a caught exception -/
def rIsiX (K : PySem.W.Frag) : List V → Hp → VK → Prop := fun xs H Q => ∃ a D C b, xs = [.ref a, .ref D] ∧ H a = some (ExO a C) ∧ ExcA K C ∧ ExcV K C ∧ PySem.W.kitOne K (.ref C) (.ref D) = some b ∧ Q (.bl b) H
theorem call_isiX : CallR X (.builtin "isinstance") (rIsiX X.K) := by
  intro pins s σ H xs us Q I r h
  obtain ⟨a, D, C, b, rfl, ea, Z, hC, e, q⟩ := h
  obtain ⟨ex, -, -⟩ := (show ObjOk X.prog X.w H s.heap a (ExO a C) from I.hok a _ ea)
  obtain ⟨u, w', rfl, rx, rn⟩ := vals2 r
  cases rx
  cases rn
  exact PySem.W.kia_one (exc_kit Z hC) I.kIn ex e (fun z => nomatch z) fun tk => ⟨.bl b, H, I.tok tk, rfl, q⟩
def rIsiXT (K : PySem.W.Frag) : List V → Hp → VK → Prop := fun xs H Q => ∃ a n C b, xs = [.ref a, .ty n] ∧ H a = some (ExO a C) ∧ ExcA K C ∧ ExcV K C ∧ PySem.W.kitOne K (.ref C) (.type n) = some b ∧ Q (.bl b) H
theorem call_isiXT : CallR X (.builtin "isinstance") (rIsiXT X.K) := by
  intro pins s σ H xs us Q I r h
  obtain ⟨a, n, C, b, rfl, ea, Z, hC, e, q⟩ := h
  obtain ⟨ex, -, -⟩ := (show ObjOk X.prog X.w H s.heap a (ExO a C) from I.hok a _ ea)
  obtain ⟨u, w', rfl, rx, rn⟩ := vals2 r
  cases rx
  cases rn
  exact PySem.W.kia_one (exc_kit Z hC) I.kIn ex e (fun z => nomatch z) fun tk => ⟨.bl b, H, I.tok tk, rfl, q⟩
end
end L2

namespace L2
open PySem PySem.Spec PyProof.Rows
theorem empty_len (a : Str) : (Str.empty ++ a).length = a.length := by
  rw [strLen_append]
  show 0 + a.length = a.length
  omega
section
variable {X : Cx} {e o : Expr} {te to : TE} {p p2 p3 pos : Pos}
/-- f'a{i}b': some text -/
def tFmt (te : TE) : TE := fun σ H Q => te σ H fun v H1 => ∃ i : Int, v = .int i ∧ i.natAbs < 10 ^ 9 ∧ ∀ z, Q (.str z) H1
theorem pe_fmt {a b : Str} {j1 j2 : Nat} (he : PE X e te) (ha : a.length ≤ 1000 := by decide +kernel) (hb : b.length ≤ 1000 := by decide +kernel) :
    PE X (.JoinedStr [.Constant (.str a) j1 p, .FormattedValue e (-1) none p2, .Constant (.str b) j2 p3] pos) (tFmt te) := by
  intro pins s σ H Q I h
  have l1 : (Str.empty ++ a).length ≤ 1000 := by
    rw [empty_len]
    exact ha
  refine JoinedStr_many (joinParts_cons (Calls.Constant_str ⟨Nat.le_trans l1 (by decide), ?_⟩))
  refine joinParts_cons (FormattedValue_plain (thn (he pins _ σ H _ (I.tok _) h) fun u s1 ⟨v, H1, I1, r, q⟩ => ?_))
  obtain ⟨i, rfl, hi, q⟩ := q
  obtain ⟨t, rfl⟩ := r
  have l2 : (Str.ofString (toString i)).length ≤ 10 := by
    rw [PySem.ofString_length]
    exact int_text_length_le10 (k := 9) (by decide) hi
  have l3 : (Str.empty ++ a ++ Str.ofString (toString i)).length ≤ 1010 := by
    rw [strLen_append]
    omega
  have l4 : (Str.empty ++ a ++ Str.ofString (toString i) ++ b).length ≤ 2010 := by
    rw [strLen_append]
    omega
  refine formatField_int_small ?_ ⟨Nat.le_trans l3 (by decide), ?_⟩
  · by_cases h0 : i.natAbs = 0
    · rw [h0]
      decide
    · exact Nat.lt_trans ((Nat.log2_lt h0).mpr (Nat.lt_of_lt_of_le hi (by decide : 10 ^ 9 ≤ 2 ^ 30))) (by decide)
  exact joinParts_cons (Calls.Constant_str ⟨Nat.le_trans l4 (by decide), joinParts_nil ⟨.str _, H1, I1.tok _, ⟨_, rfl⟩, q _⟩ (Nat.le_trans l4 (by decide))⟩)
/-- bs.count(True) -/
def rCount (K : PySem.W.Frag) : V → List V → Hp → VK → Prop := fun x vs H Q => ∃ (l : Addr) (bs : List Bool), x = .ref l ∧ vs = [.bl true] ∧ H l = some (.lst (bs.map V.bl)) ∧ Q (.int ((bs.count true : Nat) : Int)) H
theorem bools_read {h : Heap} : ∀ {bs : List Bool} {us : List Value}, Vals (bs.map V.bl) us → us = bs.map Value.bool
  | [], us, r => by
    cases r
    rfl
  | b :: bs, us, r => by
    cases r with
    | cons r1 r2 =>
      cases r1
      rw [bools_read (h := h) r2]
      rfl
theorem bools_all {h : Heap} : ∀ (bs : List Bool), ReadsAll h (bs.map Value.bool) (bs.map PyData.bool) []
  | [] => .nil
  | b :: bs => .cons (as := []) (.bool b) (bools_all bs)
theorem bools_count : ∀ (bs : List Bool), countIn (.bool true) (bs.map PyData.bool) = ((bs.count true : Nat) : Int)
  | [] => rfl
  | b :: bs => by
    have ih := bools_count bs
    rw [List.map_cons, countIn, ih]
    cases b with
    | false => rw [List.count_cons_of_ne (by decide)]; show (if (false == true) = true then (1 : Int) else 0) + _ = _; rw [if_neg (by decide)]; omega
    | true => rw [List.count_cons_self]; show (if (true == true) = true then (1 : Int) else 0) + _ = _; rw [if_pos (by decide)]; omega
theorem mt_count : MtR X "list.count" (rCount X.K) := by
  intro pins s σ H x vs v us Q I rx rv h
  obtain ⟨l, bs, rfl, rfl, hH, q⟩ := h
  cases rx
  obtain ⟨u, rfl, ru⟩ := rv.one
  cases ru
  obtain ⟨z, its, n, r, hl, e⟩ := I.lstM hH
  have ei := bools_read (h := s.heap) r
  subst ei
  refine count_list_bools (hp := s.heap) (xs := bs.map PyData.bool) (as := []) ⟨_, e, rfl, n, rfl⟩ (bools_all bs) ?_ ?_
  · rw [List.all_map]
    exact List.all_eq_true.mpr fun b _ => rfl
  · rw [bools_count]
    exact ⟨.int _, H, I.tok _, ⟨_, rfl⟩, q⟩
/-- a written constant among the arguments -/
theorem star_const {c : Const} {k : Nat} {p : Pos} {es : List Expr} {env : Env} : starEach (.Constant c k p :: es) env = (false, eval (.Constant c k p) env) :: starEach es env := rfl
theorem pa_const {c : Const} {k : Nat} {p : Pos} {es : List Expr} {te : TE} {t : TA} (ha : PE X (.Constant c k p) te) (hr : PA X es t) : PA X (.Constant c k p :: es) (tCons te t) := pa_cons ha hr star_const
theorem call_list_ofK {K : PySem.W.Frag} (hK : X.K = K) : CallR X (.type "list") (fun xs H Q => ∃ p ys, xs = [.ref p] ∧ (SqL K H p ys ∨ SqT K H p ys) ∧ ∀ l, H l = none → Q (.ref l) (upd H l (.lst ys))) := hK ▸ call_list_of
end
end L2

namespace L2
open PySem PySem.Spec PyProof.Rows
/-! ### an exception under way, its context known -/
/-- the exception at e, of the class cls: its arguments, its context, what its newest entry says of the flight -/
def Trd (base : Heap) (e : Addr) (cls a0 : Value) (cx : Option Value) (fl : Value) (h : Heap) : Prop :=
  ∃ oe vs T oT ts, h.get? e = some oe ∧ oe.cls = cls ∧ oe.data = .fields vs ∧ vs[0]? = some a0 ∧ vs[2]? = cx ∧ vs[1]? = some (.ref T) ∧ base.get? T = none ∧ T ≠ e ∧ h.get? T = some oT ∧ oT.data = .fields ts ∧ ts[3]? = some fl
structure Fl (base : Heap) (l : List Env) (e : Addr) (cls a0 : Value) (cx : Option Value) (fl : Value) (h : Heap) : Prop where
  stays : base.StaysIn h
  new : base.get? e = none
  funs : h.FunFrames base l
  tr : Trd base e cls a0 cx fl h
section
variable {M : Model} {A : Around} {E : Value → Shared → Prop} {s : Shared} {base : Heap} {l : List Env} {e : Addr} {cls a0 fl : Value} {cx : Option Value} {h : Heap} {Q : Unit → Shared → Prop}
theorem Fl.fw (x : Fl base l e cls a0 cx .none h) : Heap.FlyingW base l e cls a0 h := by
  obtain ⟨x1, x2, x3, oe, vs, T, oT, ts, q1, q2, q3, q4, _, q6, q7, q8, q9, q10, q11⟩ := x
  exact ⟨x1, x2, x3, oe, vs, T, oT, ts, q1, ⟨q2, q4⟩, q3, q6, q7, q8, q9, q10, q11⟩
theorem Fl.of (x : Heap.FlyingW base l e cls a0 h) : ∃ cx, Fl base l e cls a0 cx .none h := by
  obtain ⟨x1, x2, x3, oe, vs, T, oT, ts, q1, ⟨q2, q4⟩, q3, q6, q7, q8, q9, q10, q11⟩ := x
  exact ⟨_, x1, x2, x3, oe, vs, T, oT, ts, q1, q2, q3, q4, rfl, q6, q7, q8, q9, q10, q11⟩
theorem Fl.there (x : Fl base l e cls a0 cx fl h) : ∃ oe vs, h.get? e = some oe ∧ oe.cls = cls ∧ oe.data = .fields vs ∧ vs[2]? = cx := by
  obtain ⟨_, _, _, oe, vs, T, oT, ts, q1, q2, q3, _, q5, _⟩ := x
  exact ⟨oe, vs, q1, q2, q3, q5⟩
theorem Fl.less {base' : Heap} (k : base'.StaysIn base) (x : Fl base l e cls a0 cx fl h) : Fl base' l e cls a0 cx fl h := by
  have nn : ∀ b, base.get? b = none → base'.get? b = none := fun b z => by
    cases q : base'.get? b with
    | none => rfl
    | some o => rw [k b o q] at z; cases z
  obtain ⟨x1, x2, x3, oe, vs, T, oT, ts, q1, q2, q3, q4, q5, q6, q7, r⟩ := x
  refine ⟨fun b o z => x1 b o (k b o z), nn _ x2, ?_, oe, vs, T, oT, ts, q1, q2, q3, q4, q5, q6, nn _ q7, r⟩
  clear r q1 q2 q3 q4 q5 q6 q7 x1 x2
  induction l with
  | nil => trivial
  | cons env rest ih =>
    obtain ⟨y1, ⟨L, o, y2, y3, y4⟩, y5⟩ := x3
    exact ⟨y1, ⟨L, o, y2, nn _ y3, y4⟩, ih y5⟩
/-- the heap turns, what base holds, the frames and the records stay -/
theorem Fl.turned {h' : Heap} (x : Fl base l e cls a0 cx fl h) (k : base.StaysIn h') (f : ∀ b ∈ l.filterMap (·.frame), ∀ o, h.get? b = some o → (∀ vs, o.data ≠ .fields vs) → ∃ o', h'.get? b = some o' ∧ ∀ vs, o'.data ≠ .fields vs) (r : ∀ b o vs, h.get? b = some o → o.data = .fields vs → h'.get? b = some o) : Fl base l e cls a0 cx fl h' := by
  obtain ⟨x1, x2, x3, oe, vs, T, oT, ts, q1, q2, q3, q4, q5, q6, q7, q8, q9, q10, q11⟩ := x
  refine ⟨k, x2, ?_, oe, vs, T, oT, ts, r _ _ _ q1 q3, q2, q3, q4, q5, q6, q7, q8, r _ _ _ q9 q10, q10, q11⟩
  clear q1 q2 q3 q4 q5 q6 q7 q8 q9 q10 q11 x1 x2
  induction l with
  | nil => trivial
  | cons env rest ih =>
    obtain ⟨y1, ⟨L, o, y2, y3, y4, y5⟩, y6⟩ := x3
    obtain ⟨o', z1, z2⟩ := f L (by rw [List.filterMap_cons, y2]; exact List.mem_cons_self) o y4 y5
    exact ⟨y1, ⟨L, o', y2, y3, z1, z2⟩, ih (fun b hb => f b (by rw [List.filterMap_cons, y2]; exact List.mem_cons_of_mem _ hb)) y6⟩
theorem fl_set {fr : Option Addr} (x : Fl base l e cls a0 cx fl s.heap) (k : ∀ h', Fl base l e cls a0 cx (fr.elim .none fun f => rawInt f) h' → s.heap.UpToSlots h' → Q () { s with heap := h' }) : wpAny M A (setFlight (.ref e) fr) Q E s := by
  obtain ⟨st, nw, ff, oe, vs, T, oT, ts, he, hc, hd, h0, h2, h1, nT, Te, hT, dT, h3⟩ := x
  have h3s := (Array.getElem?_eq_some_iff.mp h3).1
  have notT : ∀ b o, s.heap.get? b = some o → (∀ vs, o.data ≠ .fields vs) → b ≠ T := by
    rintro b o q nf rfl
    rw [hT] at q
    cases q
    exact nf ts dT
  have off : ∀ b, b ≠ T → (s.heap.update T (Obj.mapFields (·.setIfInBounds 3 (fr.elim Value.none fun f => rawInt f)))).get? b = s.heap.get? b := fun b q => Heap.get?_update_other _ _ (Ne.symm q)
  unfold setFlight
  refine wpAny_bind (wpAny_field he hd h1 ?_)
  rw [if_pos (by simp)]
  refine wpAny_setField hT dT h3s (k _ ⟨fun b o q => ?_, nw, ff.of_keeps fun b o q nf => ⟨o, (off b (notT b o q nf)).trans q, rfl⟩, oe, vs, T, _, _, (off e (Ne.symm Te)).trans he, hc, hd, h0, h2, h1, nT, Te,
    Heap.get?_update_self _ hT (Obj.isFreed_of_fields (Obj.data_mapFields dT _)), Obj.data_mapFields dT _, by simp [h3s]⟩ fun b o q nf => ⟨o.slots, (off b (notT b o q nf)).trans q⟩)
  refine (off b fun z => ?_).trans (st b o q)
  rw [z, nT] at q
  cases q
/-- one more entry -/
theorem fl_entry {env : Env} {outer : List Env} {L : Addr} {oe : Obj} {vs : Array Value} {head : Value} {had : Bool} (hfr : A.frames = some (env :: outer)) (ff : s.heap.FunFrames base (env :: outer)) (hf : env.frame = some L) (st : base.StaysIn s.heap) (nw : base.get? e = none)
    (he : s.heap.get? e = some oe) (hd : oe.data = .fields vs) (hz : 1 < vs.size) (h0 : vs[0]? = some a0) (h2 : vs[2]? = cx) (k : ∀ h', Fl base (env :: outer) e oe.cls a0 cx (rawInt L) h' → s.heap.UpToSlots h' → Q () { s with heap := h' }) :
    wpAny M A (do let a ← frameOf env; let pl ← entryPlaceOf L had; let b ← EntryCells.newEntry head a .none (rawInt L) .none pl; setField (.ref e) 1 b) Q E s := by
  have nfr : e ∉ (env :: outer).filterMap (·.frame) := fun m => by
    obtain ⟨_, o, ho, nf⟩ := ff.mem m
    rw [he] at ho
    cases ho
    exact nf vs hd
  refine wpAny_bind (wpAny_frameOf_fun hfr ff hf fun h1 so => wpAny_bind (wpAny_entryPlaceOf fun pl hpl => ?_))
  unfold EntryCells.newEntry newFields
  refine wpAny_bind (wpAny_newObj_type ?_ (hpl.sizeOk5 _ _ _ _ _))
  have e1 : h1.get? e = some oe := (so.2.1 e nfr).trans he
  have st1 : base.StaysIn h1 := fun b o q => (so.2.1 b fun m => by rw [(ff.mem m).1] at q; cases q).trans (st b o q)
  have hts : ∃ ts : Array Value, ([head, .ref L, .none, rawInt L, .none] ++ (if pl.isEmpty then List.replicate 6 Value.none else pl)).toArray = ts ∧ ts[3]? = some (rawInt L) := ⟨_, rfl, by first | (simp; done) | (rcases hpl with rfl | ⟨_, _, _, _, _, _, _, rfl⟩ <;> simp)⟩
  obtain ⟨ts, ets, ts3⟩ := hts
  rw [ets]
  generalize hob : ({ cls := .type "traceback", dict := none, data := .fields ts } : Obj) = ob
  have obd : ob.data = .fields ts := by rw [← hob]
  have obf : ob.isFreed = false := by rw [← hob]; rfl
  refine wpAny_setField (Heap.get?_push_of_some ob e1) hd hz ?_
  have Te : h1.objs.size ≠ e := Nat.ne_of_gt (Heap.lt_size e1)
  generalize hT : h1.objs.size = T at *
  have d3 := Obj.data_mapFields hd (·.setIfInBounds 1 (Value.ref T))
  have g3 := Heap.get?_update_self (Obj.mapFields (·.setIfInBounds 1 (Value.ref T))) (Heap.get?_push_of_some ob e1) (Obj.isFreed_of_fields d3)
  have gT : ((h1.push ob).update e (Obj.mapFields (·.setIfInBounds 1 (Value.ref T)))).get? T = some ob := by
    rw [Heap.get?_update_other _ _ (Ne.symm Te), ← hT]
    exact Heap.get?_push_size h1 obf
  have off : ∀ b o, b ≠ e → h1.get? b = some o → ((h1.push ob).update e (Obj.mapFields (·.setIfInBounds 1 (Value.ref T)))).get? b = some o := fun b o nb q => by
    rw [Heap.get?_update_other _ _ (Ne.symm nb)]
    exact Heap.get?_push_of_some _ q
  have nte : ∀ b o, s.heap.get? b = some o → (∀ vs, o.data ≠ .fields vs) → b ≠ e := by
    rintro b o q nf rfl
    rw [he] at q
    cases q
    exact nf vs hd
  have up : ∀ b o, s.heap.get? b = some o → (∀ vs, o.data ≠ .fields vs) → ∃ sl, ((h1.push ob).update e (Obj.mapFields (·.setIfInBounds 1 (Value.ref T)))).get? b = some { o with slots := sl } := fun b o q nf => by
    obtain ⟨sl, z⟩ := so.2.2 b o q
    exact ⟨sl, off b _ (nte b o q nf) z⟩
  refine k _ ⟨fun b o q => off b o (fun z => by rw [z, nw] at q; cases q) (st1 b o q), nw, ff.of_keeps fun b o q nf => ?_, _, _, T, ob, ts, g3, Obj.cls_mapFields _ _, d3, ?_, ?_, by simp [hz], ?_, Te, gT, obd, ts3⟩ up
  · obtain ⟨sl, z⟩ := up b o q nf
    exact ⟨_, z, rfl⟩
  · rw [Array.getElem?_setIfInBounds_ne (by decide)]
    exact h0
  · rw [Array.getElem?_setIfInBounds_ne (by decide)]
    exact h2
  · rw [← hT]
    exact st1.fresh
/-- the frame is noted, or was -/
theorem fl_note {env : Env} {outer : List Env} {L : Addr} (hfr : A.frames = some (env :: outer)) (hf : env.frame = some L) (x : Fl base (env :: outer) e cls a0 cx fl s.heap) (k : ∀ h', Fl base (env :: outer) e cls a0 cx (rawInt L) h' → s.heap.UpToSlots h' → Q () { s with heap := h' }) :
    wpAny M A (noteFrame (.ref e) env) Q E s := by
  obtain ⟨st, nw, ff, oe, vs, T, oT, ts, he, hc, hd, h0, h2, h1, nT, Te, hT, dT, h3⟩ := id x
  unfold noteFrame
  simp only [hf]
  refine wpAny_bind (wpAny_field he hd h1 ?_)
  rw [if_pos (by simp)]
  refine wpAny_bind (wpAny_field hT dT h3 ?_)
  by_cases c : (fl == rawInt L) = true
  · rw [if_pos c]
    have := eq_of_beq c
    subst this
    exact wpAny_pure (k s.heap x (.refl _))
  · rw [if_neg c]
    have h3s := (Array.getElem?_eq_some_iff.mp h3).1
    have notT : ∀ b o, s.heap.get? b = some o → (∀ vs, o.data ≠ .fields vs) → b ≠ T := by
      rintro b o q nf rfl
      rw [hT] at q
      cases q
      exact nf ts dT
    have off : ∀ b, b ≠ T → (s.heap.update T (Obj.mapFields (·.setIfInBounds 3 Value.none))).get? b = s.heap.get? b := fun b q => Heap.get?_update_other _ _ (Ne.symm q)
    subst hc
    refine wpAny_bind (wpAny_setField hT dT h3s (fl_entry (s := { s with heap := _ }) hfr (ff.of_keeps fun b o q nf => ⟨o, (off b (notT b o q nf)).trans q, rfl⟩) hf (fun b o q => (off b fun z => ?_).trans (st b o q)) nw ((off e (Ne.symm Te)).trans he) hd (Array.getElem?_eq_some_iff.mp h1).1 h0 h2 fun h' x' up => k h' x' fun b o q nf => up b o ((off b (notT b o q nf)).trans q) nf))
    rw [z, nT] at q
    cases q
/-- the first entry -/
theorem fl_first {env : Env} {outer : List Env} {L : Addr} {oe : Obj} {vs : Array Value} (hfr : A.frames = some (env :: outer)) (ff : s.heap.FunFrames base (env :: outer)) (hf : env.frame = some L) (st : base.StaysIn s.heap) (nw : base.get? e = none)
    (he : s.heap.get? e = some oe) (hd : oe.data = .fields vs) (h1 : vs[1]? = some .none) (h0 : vs[0]? = some a0) (h2 : vs[2]? = cx) (k : ∀ h', Fl base (env :: outer) e oe.cls a0 cx (rawInt L) h' → s.heap.UpToSlots h' → Q () { s with heap := h' }) :
    wpAny M A (noteFrame (.ref e) env) Q E s := by
  unfold noteFrame
  simp only [hf]
  refine wpAny_bind (wpAny_field he hd h1 ?_)
  rw [if_neg (by decide)]
  exact fl_entry hfr ff hf st nw he hd (Array.getElem?_eq_some_iff.mp h1).1 h0 h2 k
/-- out of a frame -/
theorem fl_leave {env : Env} {outer : List Env} {L : Addr} (hfr : A.frames = some (env :: outer)) (hf : env.frame = some L) (x : Fl base (env :: outer) e cls a0 cx fl s.heap) (k : ∀ h', Fl base outer e cls a0 cx .none h' → s.heap.UpToSlots h' → Q () { s with heap := h' }) :
    wpAny M A (leaving env (.ref e)) Q E s := by
  unfold leaving
  refine wpAny_bind (fl_note hfr hf x fun h1 x1 u1 => fl_set (fr := none) x1 fun h2 x2 u2 => k h2 ⟨x2.stays, x2.new, x2.funs.2.2, x2.tr⟩ (u1.trans u2))
/-- passed on -/
theorem fl_pass {α : Type} {what : String} {env : Env} {R : α → Shared → Prop} (x : Fl base l e cls a0 cx fl s.heap) (k : ∀ h' fl', Fl base l e cls a0 cx fl' h' → s.heap.UpToSlots h' → E (.ref e) { s with heap := h' }) : wpAny M A (PySem.passOn what (.ref e) env : Sem α) R E s := by
  obtain ⟨st, nw, ff, oe, vs, T, oT, ts, he, hc, hd, h0, h2, h1, r⟩ := id x
  unfold PySem.passOn
  refine wpAny_bind (wpAny_field he hd h1 ?_)
  rw [if_neg (by simp)]
  first
    | exact wpAny_bind (fl_set x fun h' x' u' => wpAny_throw (k h' _ x' u'))
    | exact wpAny_bind (wpAny_pure (wpAny_bind (fl_set x fun h' x' u' => wpAny_throw (k h' _ x' u'))))
theorem fl_back {env : Env} {E' : Value → Shared → Prop} (x : Fl base l e cls a0 cx fl s.heap) (k : ∀ h' fl', Fl base l e cls a0 cx fl' h' → s.heap.UpToSlots h' → E' (.ref e) { s with heap := h' }) : cameBackBy M A env E' (.ref e) s := by
  obtain ⟨st, nw, ff, oe, vs, T, oT, ts, he, hc, hd, h0, h2, h1, r⟩ := id x
  unfold cameBackBy
  refine wpAny_bind (wpAny_field he hd h1 ?_)
  rw [if_neg (by simp)]
  first
    | exact fl_set x fun h' x' u' => k h' _ x' u'
    | exact wpAny_bind (wpAny_pure (fl_set x fun h' x' u' => k h' _ x' u'))
end
/-! ### the state behind a flight -/
theorem Un.wide {fs fs' ex : List Addr} {H H' : Hp} {h h' : Heap} (u : Un fs ex H H' h h') (k : ∀ b ∈ fs, b ∈ fs') : Un fs' ex H H' h h' := by
  refine ⟨fun b o e n nb nx => u.keep b o e n (fun z => nb (k b z)) nx, fun b o e n _ nx => ?_, u.free, u.there, u.tups, u.frzs, u.tbls⟩
  by_cases m : b ∈ fs
  · exact u.slot b o e n m nx
  · exact ⟨o.slots, u.keep b o e n m nx⟩
theorem Un.more {fs ex : List Addr} {H H' : Hp} {h h' : Heap} (u : Un fs [] H H' h h') : Un fs ex H H' h h' :=
  ⟨fun b o e n nb _ => u.keep b o e n nb (fun z => by cases z), fun b o e n m _ => u.slot b o e n m (fun z => by cases z), fun b o e n _ => u.free b o e n (fun z => by cases z), fun b o e _ => u.there b o e (fun z => by cases z), u.tups, u.frzs, u.tbls⟩
theorem un_up {P : Program} {w : World} {l l0 : List Env} {ex : List Addr} {H0 H' : Hp} {h0 h1 h' : Heap} (u : Un (frs l) ex H0 H' h0 h1) (hok : HOk P w H' h1) (tnf : ∀ b ∈ frs l, H' b = none) (sub : ∀ b o, h0.get? b = some o → b ∈ frs l → b ∈ frs l0) (sub' : ∀ b ∈ frs l0, b ∈ frs l)
    {B : Heap} (nf : ∀ b ∈ frs l, ∃ o, h1.get? b = some o ∧ ∀ vs, o.data ≠ .fields vs) (held : ∀ b o, h1.get? b = some o → b ∉ frs l → B.get? b = some o ∨ (h0.get? b = none ∧ H' b = none)) (hex : ∀ b ∈ ex, ∃ o, h1.get? b = some o)
    (st : B.StaysIn h') (sm : h1.UpToSlots h') : Un (frs l0) ex H0 H' h0 h' ∧ HOk P w H' h' ∧ ∀ b o, h'.get? b = some o → b ∉ frs l0 → B.get? b = some o ∨ (h0.get? b = none ∧ H' b = none) := by
  have inB : ∀ b o, h1.get? b = some o → b ∉ frs l → (∃ o', h0.get? b = some o') ∨ H' b ≠ none → B.get? b = some o := fun b o e nb q => by
    rcases held b o e nb with z | ⟨z1, z2⟩
    · exact z
    · rcases q with ⟨o', q⟩ | q
      · rw [z1] at q
        cases q
      · exact absurd z2 q
  refine ⟨⟨fun b o e n nb nx => ?_, fun b o e n m nx => ?_, u.free, fun b o e nx => ?_, u.tups, u.frzs, u.tbls⟩, fun b v q => ?_, fun b o e nb => ?_⟩
  · have nb' : b ∉ frs l := fun m => nb (sub b o e m)
    exact st b o (inB b o (u.keep b o e n nb' nx) nb' (.inl ⟨o, e⟩))
  · obtain ⟨sl, e1⟩ := u.slot b o e n (sub' b m) nx
    obtain ⟨o2, e2, nd⟩ := nf b (sub' b m)
    rw [e1] at e2
    cases e2
    obtain ⟨sl2, e3⟩ := sm b _ e1 nd
    exact ⟨sl2, e3⟩
  · obtain ⟨o1, e1⟩ := u.there b o e nx
    by_cases m : b ∈ frs l
    · obtain ⟨o2, e2, nd⟩ := nf b m
      obtain ⟨sl, e3⟩ := sm b _ e2 nd
      exact ⟨_, e3⟩
    · exact ⟨o1, st b o1 (inB b o1 e1 m (.inl ⟨o, e⟩))⟩
  · refine (hok b v q).stay (fun c x hc e => ?_) (fun _ z => z) fun _ _ z => z
    have hc' : ∃ z, H' c = some z := by
      rcases hc with rfl | hc
      · exact ⟨_, q⟩
      · exact ⟨_, hc⟩
    obtain ⟨z, hz⟩ := hc'
    exact st c x (inB c x e (fun m => by rw [tnf c m] at hz; cases hz) (.inr (by rw [hz]; intro y; cases y)))
  · cases hb : B.get? b with
    | some o2 =>
      have := st b o2 hb
      rw [e] at this
      exact .inl this.symm
    | none =>
      by_cases m : b ∈ frs l
      · refine .inr ⟨?_, tnf b m⟩
        cases q : h0.get? b with
        | none => rfl
        | some o0 => exact absurd (sub b o0 q m) nb
      · cases q1 : h1.get? b with
        | some o1 =>
          rcases held b o1 q1 m with z | z
          · rw [hb] at z
            cases z
          · exact .inr z
        | none =>
          refine .inr ⟨?_, ?_⟩
          · cases q : h0.get? b with
            | none => rfl
            | some o0 =>
              by_cases mx : b ∈ ex
              · obtain ⟨o1, z⟩ := hex b mx
                rw [q1] at z
                cases z
              · obtain ⟨o1, z⟩ := u.there b o0 q mx
                rw [q1] at z
                cases z
          · cases q : H' b with
            | none => rfl
            | some v =>
              obtain ⟨o1, z⟩ := (hok b v q).there
              rw [q1] at z
              cases z
/-- an exception under way in this def leaves it -/
def LandsG (X : Cx) (E : XK) : Prop := ∀ (pins : List (Addr × Obj)) (σ : St) (H : Hp) (s9 s : Shared) (ea t : Addr) (cls fl : Value) (cx : Option Value) (B : Heap), Inv X pins σ H s9 → s.os = s9.os → AllBare s.gens → Fl B X.stack ea cls (.ref t) cx fl s.heap →
  (∀ b o, s9.heap.get? b = some o → b ∉ frs X.stack → B.get? b = some o ∨ (X.s₀.heap.get? b = none ∧ H b = none)) → s9.heap.UpToSlots s.heap → X.s₀.heap.get? ea = none → H ea = none → E cls (some ea) H → X.xe (.ref ea) s
section
variable {P : Program} {w : World} {K : PySem.W.Frag} {mg : Str → Option Value} {base : Heap} {N : List Str} {qual : Str} {scope : Scope} {f : Addr} {cd : Value} {A : Around} {outer : List Env} {s0 : Shared} {H0 : Hp} {E : XK}
theorem passG : LandsG (cxOf (CXw P w) P w K mg base N qual scope f cd A outer s0 H0 E) E := by
  intro pins σ H s9 s ea t cls fl cx B J os bare x held sm new free q
  have efr : frs (cxOf (CXw P w) P w K mg base N qual scope f cd A outer s0 H0 E).stack = s0.heap.objs.size :: frs outer := rfl
  refine fl_leave J.ok.frames (show (envOfC qual scope s0.heap.objs.size f cd).frame = some s0.heap.objs.size from rfl) x fun h' x' up => ?_
  have R := un_up (P := P) (w := w) (l := (cxOf (CXw P w) P w K mg base N qual scope f cd A outer s0 H0 E).stack) (l0 := outer) (J.base.wide fun b m => by rw [efr]; exact List.mem_cons_of_mem _ m) J.hok J.stkFree (fun b o e m => by
      rw [efr] at m
      rcases List.mem_cons.mp m with z | z
      · subst z
        exact absurd (Heap.lt_size e) (Nat.lt_irrefl _)
      · exact z) (fun b m => by rw [efr]; exact List.mem_cons_of_mem _ m) (fun b m => (J.stack.mem m).2) held (fun b z => by cases z) x'.stays (sm.trans up)
  exact ⟨ea, cls, H, rfl, os.trans J.os, bare, ⟨R.1, R.2.1, new, free, B, t, x'.fw, R.2.2⟩, q⟩
end
/-! ### exceptions whose context is none -/
def Ctx0 (ea : Addr) (h : Heap) : Prop := ∃ o vs, h.get? ea = some o ∧ o.data = .fields vs ∧ vs[2]? = some .none
def CXn (P : Program) (w : World) : CXT := fun l H s E e s' => ∃ ea cls H', e = .ref ea ∧ s'.os = s.os ∧ AllBare s'.gens ∧ Fly P w l H s.heap ea cls H' s'.heap ∧ Ctx0 ea s'.heap ∧ E cls (some ea) H'
section
variable {P : Program} {w : World} {K : PySem.W.Frag} {mg : Str → Option Value} {base : Heap}
theorem Fun.okC {CX : CXT} {x qual : Str} {st : Stmt} {f : Addr} {fd : FuncData} {N ps : List Str} {k : Nat} {sp : Sp} (F : Fun K x qual st f fd) (S : FnScope N ps (defScope st)) (len : ∀ vs H Q E, sp vs H Q E → vs.length = ps.length)
    (hbody : ∀ (cdv : Value) (A : Around) (outer : List Env) (s : Shared) (H : Hp) (vs : List V) (Q : VK) (E : XK), Room k (A.deeper (envOfC qual (defScope st) s.heap.objs.size f cdv)) → sp vs H Q E →
      ∃ t, PSs (cxOf CX P w K mg base N qual (defScope st) f cdv A outer s H E) (defBody st) t ∧ t { nx := fun _ H' => Q .non H', rt := Q } (start N vs) H) : FnOk P w K mg base CX (k + 1) f fd ps sp := by
  obtain ⟨oc, od, kV, doc, pm, an, cdv, ct, osl, rfl, lk, hcd⟩ := F.ex
  exact fn_of lk hcd S len fun A outer s H vs Q E hr hsp => hbody cdv A outer s H vs Q E hr hsp
theorem madeN {N : List Str} {qual : Str} {scope : Scope} {f : Addr} {cd : Value} {A : Around} {outer : List Env} {s0 : Shared} {H0 : Hp} {E : XK} :
    MakesS (cxOf (CXn P w) P w K mg base N qual scope f cd A outer s0 H0 E) (fun _ => E) := by
  intro pins σ H s h' ea cls args I hm q
  have efr : frs (cxOf (CXn P w) P w K mg base N qual scope f cd A outer s0 H0 E).stack = s0.heap.objs.size :: frs outer := rfl
  have nf : ∀ b ∈ frs (cxOf (CXn P w) P w K mg base N qual scope f cd A outer s0 H0 E).stack, ∃ o, h'.get? b = some o ∧ ∀ vs, o.data ≠ .fields vs := fun b m => by
    obtain ⟨_, o, e, nd⟩ := I.stack.mem m
    exact ⟨o, hm.keeps b o e, nd⟩
  obtain ⟨t, he, htn, ht⟩ := hm.there
  have ff : s.heap.FunFrames (PySem.W.hideAll s.heap (frs (cxOf (CXn P w) P w K mg base N qual scope f cd A outer s0 H0 E).stack)) (cxOf (CXn P w) P w K mg base N qual scope f cd A outer s0 H0 E).stack := PySem.W.funFrames_hide I.stack fun env he a ha => List.mem_filterMap.mpr ⟨env, he, ha⟩
  have nw : (PySem.W.hideAll s.heap (frs (cxOf (CXn P w) P w K mg base N qual scope f cd A outer s0 H0 E).stack)).get? ea = none := by
    cases z : (PySem.W.hideAll s.heap (frs (cxOf (CXn P w) P w K mg base N qual scope f cd A outer s0 H0 E).stack)).get? ea with
    | none => rfl
    | some o =>
      have := PySem.W.of_hideAll _ z
      rw [hm.new] at this
      cases this
  refine wpAny_bind (fl_first (s := { s with heap := h' }) (base := PySem.W.hideAll s.heap (frs (cxOf (CXn P w) P w K mg base N qual scope f cd A outer s0 H0 E).stack)) (a0 := .ref t) (cx := some .none) I.ok.frames (ff.of_keeps fun b o e _ => ⟨o, hm.keeps b o e, rfl⟩) (show (envOfC qual scope s0.heap.objs.size f cd).frame = some s0.heap.objs.size from rfl)
    (fun b o e => hm.keeps b o (PySem.W.of_hideAll _ e)) nw he rfl rfl rfl rfl fun h1 x1 u1 => fl_set (fr := none) x1 fun h2 x2 u2 => ?_)
  have x3 : Fl _ outer ea cls (.ref t) (some .none) .none h2 := ⟨x2.stays, x2.new, x2.funs.2.2, x2.tr⟩
  have R := un_up (P := P) (w := w) (l := (cxOf (CXn P w) P w K mg base N qual scope f cd A outer s0 H0 E).stack) (l0 := outer) (h1 := h') ((I.base.trans (Un.kept hm.keeps)).wide fun b m => by rw [efr]; exact List.mem_cons_of_mem _ m) (I.hok.kept hm.keeps) I.stkFree (fun b o e m => by
      rw [efr] at m
      rcases List.mem_cons.mp m with z | z
      · subst z
        exact absurd (Heap.lt_size e) (Nat.lt_irrefl _)
      · exact z) (fun b m => by rw [efr]; exact List.mem_cons_of_mem _ m) nf (fun b o e nb => by
        cases qb : s.heap.get? b with
        | some o2 =>
          have := hm.keeps b o2 qb
          rw [e] at this
          cases this
          exact .inl (PySem.W.hideAll_get _ qb nb)
        | none =>
          refine .inr ⟨?_, hnone I.hok qb⟩
          cases z : s0.heap.get? b with
          | none => exact z
          | some o0 =>
            obtain ⟨o1, e1⟩ := I.base.there b o0 z (fun y => by cases y)
            rw [qb] at e1
            cases e1) (fun b z => by cases z) x3.stays (u1.trans u2)
  have c0 : Ctx0 ea h2 := by
    obtain ⟨oe, vs, z1, z2, z3, z4⟩ := x3.there
    exact ⟨oe, vs, z1, z3, z4⟩
  refine ⟨ea, cls, H, rfl, I.os, I.bare, ⟨R.1, R.2.1, ?_, hnone I.hok hm.new, _, t, x3.fw, R.2.2⟩, c0, q⟩
  cases z : s0.heap.get? ea with
  | none => rfl
  | some o =>
    obtain ⟨o1, e1⟩ := I.base.there ea o z (fun y => by cases y)
    rw [hm.new] at e1
    cases e1
end
/-! ### try: an exception without context is caught -/
section
variable {X : Cx} {pins pins' : List (Addr × Obj)} {σ : St} {H H' : Hp} {s s3 : Shared}
def CaughtN (X : Cx) (pins : List (Addr × Obj)) (EE : St → XK) (e : Value) (s3 : Shared) : Prop :=
  ∃ (σ : St) (s0 : Shared) (H H' : Hp) (ea : Addr) (cls : Value), e = .ref ea ∧ Inv X pins σ H s0 ∧ s3.os = s0.os ∧ AllBare s3.gens ∧ Fly X.prog X.w X.stack H s0.heap ea cls H' s3.heap ∧ Ctx0 ea s3.heap ∧ EE σ cls (some ea) H'
theorem passN {EE : St → XK} (ho : Own X) : PassesS (CXn X.prog X.w) (xTry X pins (CaughtN X pins EE)) EE := by
  intro pins' σ H s e s' I hc
  obtain ⟨ea, cls, H', rfl, os, bare, F, c0, q⟩ := hc
  obtain ⟨B, t, hfl, held⟩ := F.fly
  obtain ⟨cx, x0⟩ := Fl.of hfl
  have ecx : cx = some .none := by
    obtain ⟨oe, vs, z1, _, z3, z4⟩ := x0.there
    obtain ⟨o2, vs2, y1, y2, y3⟩ := c0
    rw [z1] at y1
    cases y1
    rw [z3] at y2
    cases y2
    exact z4.symm.trans y3
  subst ecx
  have J := I.ofTry
  rw [show (xTry X pins (CaughtN X pins EE)).stack = X.env :: X.outer from ho.1] at x0
  refine fl_note (J.ok.frames.trans (congrArg some ho.1)) ho.2 x0 fun h4 x4 sm4 => fl_set (fr := none) x4 fun h5 x5 sm5 => ?_
  rw [← ho.1] at x5
  obtain ⟨oe, vs, z1, _, z3, z4⟩ := x5.there
  exact ⟨σ, s, H, H', ea, cls, rfl, J, os, bare, Fly.turn J F hfl held x5.fw (sm4.trans sm5), ⟨oe, vs, z1, z3, z4⟩, q⟩
def PHN (X : Cx) (hs : List ExceptHandler) (th : TH) : Prop := ∀ (pins : List (Addr × Obj)) (σ : St) (s0 : Shared) (H H' : Hp) (ea : Addr) (cls : Value) (s3 : Shared) (D : Ends), Inv X pins σ H s0 → s3.os = s0.os → AllBare s3.gens →
  Fly X.prog X.w X.stack H s0.heap ea cls H' s3.heap → Ctx0 ea s3.heap → th cls ea D σ H' → wpAny (model X.prog X.w) X.A (handleBy (.ref ea) X.env hs) (SP X pins D) X.xe s3
theorem ps_tryN {body : List Stmt} {h0 : ExceptHandler} {hs : List ExceptHandler} {pos : Pos} {tb : (St → XK) → TS} {th : TH} (hb : ∀ pins EE, PSs (xTry X pins (CaughtN X pins EE)) body (tb EE)) (hh : PHN X (h0 :: hs) th) :
    PS X (.Try body (h0 :: hs) [] [] pos) (tTry tb th) := by
  intro pins s σ H D I h
  refine wpAny_Try_except (wpAny_mono (hb pins _ [] s σ H D (I.xtry _) h) (fun f s1 q => ?_) fun e s1 q => wpAny_mono q (fun _ s2 q2 => wpAny_mono q2 (fun _ s3 q3 => ?_) fun _ _ y => y) fun _ _ y => y)
  · cases f with
    | next => exact wpAny_execs_nil q.ofTry
    | brk => exact q.ofTry
    | cont => exact q.ofTry
    | ret u => exact q.ofTry
  · obtain ⟨σ1, s0, H0, H1, ea, cls, rfl, I0, os, bare, F, c0, ea', z, q⟩ := q3
    cases z
    exact hh pins σ1 s0 H0 H1 ea cls s3 D I0 os bare F c0 q
end
end L2

namespace L2
open PySem PySem.Spec PyProof.Rows
/-! ### raise .. from .. in a handler -/
section
variable {M : Model} {A : Around} {E : Value → Shared → Prop} {h : Heap} {g : Array GenState} {d : Drawn} {t : Nat} {os : OsState}
variable {nm q : Str} {C N : Addr} {bs bm : List Value} {hdct : Bool} {sn : List Str} {sub : List Value} {ab : Bool} {col : Option Bool} {dd : Option Addr} {k0 k1 k2 k3 k5 : Option Value} {newId : String}
theorem exc_self {e : Addr} {od : Option Addr} {osl : Array (Option Value)} {vs : Array Value} {msg : String} {Q : Value → Shared → Prop} (hC : h.get? C = some (excClassObj nm q C N bs bm hdct sn sub ab col dd k0 k1 k2 k3 k5 newId)) (hbase : bm.contains (.type "BaseException") = true)
    (he : h.get? e = some { cls := .ref C, dict := od, data := .fields vs, slots := osl }) (hq : Q (.ref e) ⟨h, g, d, t, os⟩) : wpAny M A (excFromValue (.ref e) msg) Q E ⟨h, g, d, t, os⟩ := by
  have hcB : (Value.ref C :: bm).contains (.type "BaseException") = true := by
    rw [List.contains_cons, hbase, Bool.or_true]
  unfold excFromValue
  repeat (first | with_reducible refine wpAny_loadPart_at he ?_ | with_reducible refine wpAny_loadPart_at hC ?_ | (with_reducible refine wpAny_isSubtype_exc hC ?_; rw [hcB]) | wp_step)
  exact hq
theorem raised_self {e : Addr} {od : Option Addr} {osl : Array (Option Value)} {vs : Array Value} {Q : Value → Shared → Prop} (hC : h.get? C = some (excClassObj nm q C N bs bm hdct sn sub ab col dd k0 k1 k2 k3 k5 newId))
    (he : h.get? e = some { cls := .ref C, dict := od, data := .fields vs, slots := osl }) (hq : Q (.ref e) ⟨h, g, d, t, os⟩) : wpAny M A (raisedInstance (.ref e)) Q E ⟨h, g, d, t, os⟩ := by
  unfold raisedInstance
  repeat (first | with_reducible refine wpAny_loadPart_at he ?_ | with_reducible refine wpAny_loadPart_at hC ?_ | wp_step)
  exact hq
theorem not_type {e : Addr} {c : Value} {od : Option Addr} {osl : Array (Option Value)} {vs : Array Value} {Q : Bool → Shared → Prop}
    (he : h.get? e = some { cls := c, dict := od, data := .fields vs, slots := osl }) (hq : Q false ⟨h, g, d, t, os⟩) : wpAny M A (isType (.ref e)) Q E ⟨h, g, d, t, os⟩ := by
  repeat (first | with_reducible refine wpAny_loadPart_at he ?_ | wp_step)
  exact hq
end
section
variable {prog : Program} {w : World} {A : Around} {E : Value → Shared → Prop} {s : Shared}
theorem unchain_none {v : Value} {a : Addr} {o : Obj} {vs : Array Value} {Q : Value → Shared → Prop} (he : s.heap.get? a = some o) (hd : o.data = .fields vs) (h2 : vs[2]? = some .none) (hq : Q .none s) :
    wpAny (model prog w) A (runValue (.builtin "proto.unchain" ⟨[v, .ref a, .ref a, .bool false], []⟩)) Q E s := by
  have en : entryFor table "proto.unchain" = some Builtin.«proto.unchain» := entryFor_of_tree (by kernel_rfl)
  refine wpAny_runValue (codeAny_builtin en ?_)
  unfold Builtin.«proto.unchain»
  refine wpAny_bind (wpAny_field he hd h2 ?_)
  rw [if_pos (by decide)]
  exact wpAny_pure hq
/-- raise .. from ..: what the new exception is -/
structure FromEnd (s : Shared) (e : Addr) (cls a0 : Value) (h' : Heap) : Prop where
  off : ∀ b, b ≠ e → h'.get? b = s.heap.get? b
  rec_ : ∃ o vs, h'.get? e = some o ∧ o.cls = cls ∧ o.data = .fields vs ∧ vs[0]? = some a0 ∧ vs[1]? = some .none
theorem raise_from {env : Env} {x c : Sem Value} {nm q nm' q' : Str} {C N C' N' ea : Addr} {bs bm bs' bm' : List Value} {hdct hdct' : Bool} {sn sn' : List Str} {sub sub' : List Value} {ab ab' : Bool} {col col' : Option Bool} {dd dd' : Option Addr} {k0 k1 k2 k3 k5 k0' k1' k2' k3' k5' : Option Value} {newId newId' : String} {Q : Flow → Shared → Prop}
    (hbase : bm.contains (.type "BaseException") = true) (hbase' : bm'.contains (.type "BaseException") = true) (hh : A.handled = some (.ref ea))
    (h : wpAny (model prog w) A x (fun v s1 => ∃ e t, v = .ref e ∧ wpAny (model prog w) A c (fun v2 s2 => v2 = .ref ea ∧ ea ≠ e ∧ s2.heap.get? C = some (excClassObj nm q C N bs bm hdct sn sub ab col dd k0 k1 k2 k3 k5 newId) ∧ s2.heap.get? C' = some (excClassObj nm' q' C' N' bs' bm' hdct' sn' sub' ab' col' dd' k0' k1' k2' k3' k5' newId') ∧
      s2.heap.get? e = some { cls := .ref C, data := .fields #[.ref t, .none, .none, .none, .bool false, .none] } ∧ (∃ od osl vs, s2.heap.get? ea = some { cls := .ref C', dict := od, data := .fields vs, slots := osl } ∧ vs[2]? = some .none) ∧ ∀ h', FromEnd s2 e (.ref C) (.ref t) h' → E (.ref e) { s2 with heap := h' }) E s1) E s) :
    wpAny (model prog w) A (raiseStmt env (some x) (some c)) Q E s := by
  unfold raiseStmt
  refine wpAny_bind (wpAny_mono h (fun v s1 h1 => ?_) fun _ _ y => y)
  obtain ⟨e, t, rfl, h1⟩ := h1
  refine wpAny_bind (wpAny_holding (wpAny_mono h1 (fun v2 s2 h2 => wpAny_bind (wpAny_pure ?_)) fun _ _ y => y))
  obtain ⟨rfl, ne, hC, hC', he, ⟨od, osl, vs, hea, h2c⟩, hE⟩ := h2
  obtain ⟨hp, g, d, tk, os⟩ := s2
  have nC : C ≠ e := fun z => by
    rw [z] at hC
    have := hC.symm.trans he
    cases this
  refine wpAny_bind (wpAny_holding (exc_self hC hbase he ?_))
  dsimp only
  rw [if_neg (by simp)]
  refine wpAny_bind (wpAny_holding (exc_self hC' hbase' hea ?_))
  refine wpAny_bind (wpAny_setField he rfl (by show 3 < 6; decide) ?_)
  have g1 := Heap.get?_update_self (Obj.mapFields (·.setIfInBounds 3 (Value.ref ea))) he rfl
  refine wpAny_bind (wpAny_setField g1 rfl (by show 4 < 6; decide) ?_)
  have g2 := Heap.get?_update_self (Obj.mapFields (·.setIfInBounds 4 (Value.bool true))) g1 rfl
  have o2 : ∀ b, b ≠ e → ((hp.update e (Obj.mapFields (·.setIfInBounds 3 (Value.ref ea)))).update e (Obj.mapFields (·.setIfInBounds 4 (Value.bool true)))).get? b = hp.get? b := fun b nb => by
    rw [Heap.get?_update_other _ _ (Ne.symm nb), Heap.get?_update_other _ _ (Ne.symm nb)]
  have z2 : ∃ o vs, ((hp.update e (Obj.mapFields (·.setIfInBounds 3 (Value.ref ea)))).update e (Obj.mapFields (·.setIfInBounds 4 (Value.bool true)))).get? e = some { cls := .ref C, data := .fields vs, slots := o } ∧ vs[0]? = some (.ref t) ∧ vs[1]? = some .none ∧ vs.size = 6 := ⟨_, _, g2, rfl, rfl, rfl⟩
  clear g1 g2
  generalize (hp.update e (Obj.mapFields (·.setIfInBounds 3 (Value.ref ea)))).update e (Obj.mapFields (·.setIfInBounds 4 (Value.bool true))) = h2 at o2 z2
  obtain ⟨osl2, vs2, e2, v20, v21, v2s⟩ := z2
  have eC : h2.get? C = _ := (o2 C nC).trans hC
  refine wpAny_bind (not_type e2 ?_)
  dsimp only
  rw [if_neg (by simp)]
  refine wpAny_bind (raised_self eC e2 ?_)
  have fl : wpAny (model prog w) A (setFlight (.ref e) none) (fun _ s' => s' = ⟨h2, g, d, tk, os⟩) E ⟨h2, g, d, tk, os⟩ := by
    unfold setFlight
    refine wpAny_bind (wpAny_field e2 rfl v21 ?_)
    rw [if_neg (by decide)]
    exact wpAny_pure rfl
  refine wpAny_bind (wpAny_mono fl (fun _ s' z => ?_) fun _ _ y => y)
  subst z
  unfold raiseNew
  refine wpAny_bind (wpAny_handled ?_)
  rw [hh]
  dsimp only
  rw [if_pos (by simpa using ne)]
  refine wpAny_bind (wpAny_holding (unchain_none ((o2 ea ne).trans hea) rfl h2c ?_))
  have up : wpAny (model prog w) A (setField (.ref e) 2 (.ref ea)) (fun _ s' => E (.ref e) s') E ⟨h2, g, d, tk, os⟩ := wpAny_setField e2 rfl (by rw [v2s]; decide) (hE _ ⟨fun b nb => (Heap.get?_update_other _ _ (Ne.symm nb)).trans (o2 b nb), _, _, Heap.get?_update_self _ e2 rfl, rfl, rfl, by
    rw [Array.getElem?_setIfInBounds_ne (by decide)]
    exact v20, by
    rw [Array.getElem?_setIfInBounds_ne (by decide)]
    exact v21⟩)
  exact wpAny_bind (wpAny_mono up (fun _ s' z => wpAny_throw z) fun _ _ y => y)
end
section
variable {prog : Program} {w : World} {A : Around} {E : Value → Shared → Prop} {s : Shared} {env : Env} {nm q : Str} {C N : Addr} {bs bm bmB : List Value} {hdct : Bool} {sn : List Str} {sub : List Value} {ab : Bool} {col : Option Bool} {dd : Option Addr} {k0 k1 k2 k3 k5 : Option Value} {B newId initId : String}
/-- C(..), C a class of exceptions -/
theorem exc_called (F : ExcBaseFacts B newId initId bmB) {mN : Str → Option Value} {x : Str} {np cpos : Pos} {args : List Expr} {Q : Value → Shared → Prop} (hpl : (backTo cpos (starEach args env)).any (·.1) = false) (hni : mN "__init__" = none)
    (h : wpAny (model prog w) A (eval (.Name x np) env) (fun f s1 => f = .ref C ∧ wpAny (model prog w) A (evalArgs (.ref C) true (backTo cpos (starEach args env)) []) (fun a s2 => a.kw = [] ∧ a.pos.length ≤ sizeLine ∧ s2.heap.get? C = some (excClassObj nm q C N bs bm hdct sn sub ab col dd k0 k1 k2 k3 k5 newId) ∧ s2.heap.Ns N mN ∧ OwnTail s2.heap bmB bm ∧
      ∀ h' e, Heap.MadeExcOf s2.heap h' e (.ref C) a.pos → Q (.ref e) { s2 with heap := h' }) E s1) E s) : wpAny (model prog w) A (eval (.Call (.Name x np) args [] cpos) env) Q E s := by
  refine wpAny_Call_ofName (wpAny_mono h (fun f s1 h1 => ?_) fun _ _ y => y)
  obtain ⟨rfl, h1⟩ := h1
  unfold callWith
  refine wpAny_bind (wpAny_holding (wpAny_mono h1 (fun a s2 h2 => wpAny_bind (wpAny_standAt ?_)) fun _ _ y => y))
  obtain ⟨us, kw⟩ := a
  obtain ⟨ek, hl, hC, hn, tl, h2⟩ := h2
  have ek' : kw = [] := ek
  subst ek'
  obtain ⟨hp, g, d, tk, os⟩ := s2
  simp only [hpl]
  exact wpAny_bind (wpAny_keeperOf_exc hC (wpAny_bind (wpAny_call_exc_subT (hrest := hl) F tl hC hn hni fun h' e hm => wpAny_bind (wpAny_holding (wpAny_point (wpAny_pure (h2 h' e hm)))))))
end
theorem Ctx0.eq {ea : Addr} {base h : Heap} {l : List Env} {cls a0 fl : Value} {cx : Option Value} (c : Ctx0 ea h) (x : Fl base l ea cls a0 cx fl h) : cx = some .none := by
  obtain ⟨oe, vs, z1, _, z3, z4⟩ := x.there
  obtain ⟨o2, vs2, y1, y2, y3⟩ := c
  rw [z1] at y1
  cases y1
  rw [z3] at y2
  cases y2
  exact z4.symm.trans y3
/-- except D as n: raise C('..') from n -/
def hFrom (K : PySem.W.Frag) (D C : Addr) (E : XK) : TH := fun cls _ _ _ H => ∃ C0, cls = .ref C0 ∧ ExcV K C0 ∧ PySem.W.mroIn K C0 (.ref D) = some true ∧ ∀ ea, H ea = none → E (.ref C) (some ea) H
section
variable {X : Cx} {E : XK}
theorem ph_from {x n c : Str} {i : Nat} {np pos cp cpos p1 np2 rpos : Pos} {txt : Str} {j1 : Nat} {D C : Addr} (ho : Own X) (hex : X.ex = []) (hL : LandsG X E) (hg : Gl X x) (hm : X.mg x = some (.ref D)) (hD : ExcV X.K D) (hgc : Gl X c) (hmc : X.mg c = some (.ref C)) (hC : ExcV X.K C) (hN : X.N.Nodup) (hi : X.N[i]? = some n)
    (hl : X.env.kindOf n = some .local) (hd : (x == ("__debug__" : Str)) = false := by decide) (hdc : (c == ("__debug__" : Str)) = false := by decide) (hdn : (n == ("__debug__" : Str)) = false := by decide) (hcd : (n == ("__classdict__" : Str)) = false := by decide) :
    PHN X [.ExceptHandler (some (.Name x np)) (some n) [.Raise (some (.Call (.Name c cp) [.Constant (.str txt) j1 p1] [] cpos)) (some (.Name n np2)) rpos] pos] (hFrom X.K D C E) := by
  intro pins σ s0 H H' ea cls s3 Dd I0 os bare F c0 h
  obtain ⟨C0, rfl, hC0, hmr, h⟩ := h
  have I3 := Fly.inv I0 os bare F
  obtain ⟨B, t, hfl, held⟩ := F.fly
  obtain ⟨oe, hoe, hoc⟩ := hfl.there
  obtain ⟨cx, x3⟩ := Fl.of hfl
  have ecx := c0.eq x3
  subst ecx
  refine wpAny_handleBy_cons (codeAny_handlers_test (ld_glob (X := xSuite X ea) I3.suite hg hm (matches_own I3.kIn hC0 hD hoe hoc hmr ?_) hd)) (by intro q; cases q)
  refine codeAny_handlers_suite_as (fl_set (fr := none) x3 fun h6 x6 sm6 => ?_)
  have F6 := Fly.turn I0 F hfl held x6.fw sm6
  have I6 := Fly.inv (s3 := { s3 with heap := h6 }) I0 os bare F6
  refine store_ok2 (X := xSuite X ea) I6.suite hN hi (.inl hl) (show RelV (.ref ea) (.ref ea) from rfl) (fun s7 I7 hsb => ?_) (.inr hl)
  obtain ⟨a, sb, ha⟩ := hsb
  obtain ⟨o6, v6, g6, c6, d6, z6⟩ := x6.there
  have nea : ea ≠ a := by
    have ne : ∀ b o, s0.heap.get? b = some o → ea ≠ b := fun b o e z => by
      rw [← z, F.new] at e
      cases e
    rcases ha with z | z
    · obtain ⟨m, ⟨o, _, _, ho', _⟩, _⟩ := I0.loc
      rw [z]
      exact ne _ o ho'
    · obtain ⟨v, o, ho', _⟩ := I0.cell n a z
      exact ne _ o ho'
  have g7 : s7.heap.get? ea = some o6 := (sb.2 ea nea).trans g6
  have J7 : Inv X pins (σ.set i (some (.ref ea))) H' s7 := I7.ofSuite I6.ok
  obtain ⟨nm, qn, N, bs, bm, hd', sn, sub, ab, col, dd, k0, k1, k2, k3, k5, mN, a1, a2, hni, tl0, -⟩ := hC.obj I6.ok.mod.kin
  obtain ⟨nm', qn', N', bs', bm', hd2, sn', sub', ab', col', dd', k0', k1', k2', k3', k5', mN', b1, -, -, tl1, -⟩ := hC0.obj I6.ok.mod.kin
  refine wpAny_execs_cons ?_
  rw [arm_exec_Raise]
  refine wpAny_bind (wpAny_standAt ?_)
  refine raise_from (C := C) (C' := C0) (ea := ea) (nm := nm) (q := qn) (N := N) (bs := bs) (bm := bm) (hdct := hd') (sn := sn) (sub := sub) (ab := ab) (col := col) (dd := dd) (k0 := k0) (k1 := k1) (k2 := k2) (k3 := k3) (k5 := k5) (newId := "ValueError.__new__")
    (nm' := nm') (q' := qn') (N' := N') (bs' := bs') (bm' := bm') (hdct' := hd2) (sn' := sn') (sub' := sub') (ab' := ab') (col' := col') (dd' := dd') (k0' := k0') (k1' := k1') (k2' := k2') (k3' := k3') (k5' := k5') (newId' := "ValueError.__new__") (tl0.hasType (by decide)) (tl1.hasType (by decide)) rfl (wpAny_bind (exc_called (C := C) (nm := nm) (q := qn) (N := N) (bs := bs) (bm := bm) (hdct := hd') (sn := sn) (sub := sub) (ab := ab) (col := col) (dd := dd) (k0 := k0) (k1 := k1) (k2 := k2) (k3 := k3) (k5 := k5) (mN := mN) PySem.F.excBase_ValueError rfl hni (ld_glob (X := xSuite X ea) I7 hgc hmc ⟨rfl, ?_⟩ hdc)))
  refine PySem.Calls.evalArgs_plain (Calls.spliced_cons (Calls.Constant_str (x := txt) (k := j1) (pos := p1) (env := X.env) (Calls.spliced_nil ?_)))
  refine ⟨rfl, (by show 1 ≤ sizeLine; decide), I7.bk _ _ a1, a2.keeps I7.bk, tl0.keeps I7.bk, fun h8 e2 hm8 => ?_⟩
  obtain ⟨t2, he2, ht2n, ht2⟩ := hm8.there
  refine wpAny_bind (wpAny_standAt (wpAny_pure ⟨e2, t2, rfl, ?_⟩))
  have I8 : Inv (xSuite X ea) pins (σ.set i (some (.ref ea))) H' { s7 with heap := h8, toks := s7.toks + 1 } := I7.kept hm8.keeps
  have hσi : (σ.set i (some (.ref ea)))[i]? = some (some (.ref ea)) := by
    rw [List.getElem?_set_self]
    rw [I0.len]
    exact (List.getElem?_eq_some_iff.mp hi).1
  obtain ⟨m8, hn8, hl8⟩ := I8.loc
  obtain ⟨u8, r8, k8⟩ := hl8 i n (.ref ea) hi hσi (.inl hl)
  cases r8
  rcases k8 with ⟨hk8, hm8'⟩ | ⟨hk8, _⟩
  case inr => exact absurd hl (by rcases hk8 with z | z <;> (intro y; rw [show X.env.kindOf n = _ from z] at y; cases y))
  refine wpAny_bind (wpAny_Name (wpAny_loadName_local I8.ok.kind hk8 hn8 hm8' (wpAny_bind (wpAny_standAt (wpAny_pure ?_)))) hdn)
  obtain ⟨oc, od, oda, osl⟩ := o6
  have c6' : oc = .ref C0 := c6
  have d6' : oda = .fields v6 := d6
  subst c6' d6'
  refine ⟨rfl, fun z => (by rw [z, hm8.new] at g7; cases g7), hm8.keeps _ _ (I7.bk _ _ a1), hm8.keeps _ _ (I7.bk _ _ b1), he2, ⟨od, osl, v6, hm8.keeps _ _ g7, z6⟩, fun h9 fe => ?_⟩
  have hk9 : ∀ b o, s7.heap.get? b = some o → h9.get? b = some o := fun b o e => by
    have nb : b ≠ e2 := fun z => by
      rw [z, hm8.new] at e
      cases e
    exact (fe.off b nb).trans (hm8.keeps b o e)
  obtain ⟨o9, v9, g9, c9, d9, v90, v91⟩ := fe.rec_
  have ff9 := (PySem.W.funFrames_hide (as := frs X.stack) J7.stack fun env he a ha => List.mem_filterMap.mpr ⟨env, he, ha⟩).of_keeps (h' := h9) fun b o e _ => ⟨o, hk9 b o e, rfl⟩
  have nw : (PySem.W.hideAll s7.heap (frs X.stack)).get? e2 = none := by
    cases z : (PySem.W.hideAll s7.heap (frs X.stack)).get? e2 with
    | none => rfl
    | some o =>
      have := PySem.W.of_hideAll _ z
      rw [hm8.new] at this
      cases this
  have hfr : (X.A.mark (some (.ref ea))).frames = some (X.env :: X.outer) := J7.ok.frames.trans (congrArg some ho.1)
  have ff9' : h9.FunFrames (PySem.W.hideAll s7.heap (frs X.stack)) (X.env :: X.outer) := by
    rw [← ho.1]
    exact ff9
  refine fl_first (base := PySem.W.hideAll s7.heap (frs X.stack)) (a0 := .ref t2) (cx := v9[2]?) hfr ff9' ho.2 (fun b o e => hk9 b o (PySem.W.of_hideAll _ e)) nw g9 d9 v91 v90 rfl fun h10 x10 sm10 => ?_
  rw [c9, ← ho.1] at x10
  have R10 := un_up (P := X.prog) (w := X.w) (l := X.stack) (l0 := X.stack) (ex := []) (h0 := s7.heap) (h1 := h9) (Un.kept hk9) (J7.hok.kept hk9) J7.stkFree (fun _ _ _ y => y) (fun _ y => y) (fun b mb => (ff9.mem mb).2) (fun b o e nb => by
      cases z : s7.heap.get? b with
      | none => exact .inr ⟨rfl, hnone J7.hok z⟩
      | some o7 =>
        have := hk9 b o7 z
        rw [e] at this
        cases this
        exact .inl (PySem.W.hideAll_get _ z nb)) (fun b z => by cases z) x10.stays sm10
  have J10 : Inv X pins (σ.set i (some (.ref ea))) H' { s7 with heap := h10, toks := s7.toks + 1 } := J7.call' (ch := []) rfl R10.1 R10.2.1 J7.bare fun b z => by cases z
  obtain ⟨m10, hn10, -⟩ := id J10.loc
  refine wpAny_nameGoes_keeps hl hn10 (by rw [J10.ok.kind]; rfl) fun h11 v11 hn11 sb11 => ?_
  have J11 := J10.gone (tk := s7.toks + 1 + 1) hN hi hn10 hn11 sb11
  have locIn : X.env.locals ∈ frs X.stack := by
    rw [ho.1]
    exact List.mem_filterMap.mpr ⟨X.env, List.mem_cons_self, ho.2⟩
  have x11 := x10.turned (h' := h11) (fun b o e => (sb11.2 b (fun z => by rw [z, PySem.W.hideAll_none _ locIn] at e; cases e)).trans (x10.stays b o e)) (fun b _ o e nf => by
      by_cases c : b = X.env.locals
      · subst c
        obtain ⟨o', _, _, g', d', _⟩ := hn11
        exact ⟨o', g', fun vs z => by rw [d'] at z; cases z⟩
      · exact ⟨o, (sb11.2 b c).trans e, nf⟩) fun b o vs e d => (sb11.2 b (fun z => by
        obtain ⟨o', _, _, g', d', _⟩ := hn10
        have g2 : h10.get? X.env.locals = some o' := g'
        rw [z, g2] at e
        cases e
        rw [d'] at d
        cases d)).trans e
  refine fl_pass x11 fun h12 fl12 x12 sm12 => ?_
  rw [ho.1] at x12
  refine fl_note hfr ho.2 x12 fun h13 x13 sm13 => ?_
  rw [← ho.1] at x13
  refine fl_back x13 fun h14 fl14 x14 sm14 => ?_
  have old : ∀ b, s7.heap.get? b = none → X.s₀.heap.get? b = none := fun b z => by
    cases y : X.s₀.heap.get? b with
    | none => rfl
    | some o =>
      obtain ⟨o', e'⟩ := J7.base.there b o y (by rw [hex]; intro q; cases q)
      rw [z] at e'
      cases e'
  refine hL pins _ H' _ _ e2 t2 (.ref C) fl14 _ _ J11 rfl J11.bare x14 (fun b o e nb => ?_) (sm12.trans (sm13.trans sm14)) (old e2 hm8.new) (hnone J7.hok hm8.new) (h e2 (hnone J7.hok hm8.new))
  have nb' : b ≠ X.env.locals := fun z => nb (z ▸ locIn)
  rcases R10.2.2 b o ((sb11.2 b nb').symm.trans e) nb with z | ⟨z1, z2⟩
  · exact .inl z
  · exact .inr ⟨old b z1, z2⟩
end
end L2

namespace L2
open PySem PySem.Spec PyProof.Rows
/-! ### a comprehension whose element may raise -/
/-- what is asked where the block ends with the exception e -/
def ErrAt (X : Cx) (C : Addr) (e : Value) (s' : Shared) : Prop := ∃ m, s'.heap.Ns C m ∧ ∀ h', Heap.SameBut C s'.heap h' → ∀ cenv : Env, cenv.locals = C → wpAny (model X.prog X.w) X.A (PySem.passOn "comprehension.variables-let-go" e cenv : Sem Value) (fun _ _ => False) X.xe { s' with heap := h' }
/-- the block's context; pz: the iterator's objects as they stand at this turn -/
def cxLcW (X : Cx) (scope : Scope) (N : List Str) (cl : List (Str × Addr)) (s : Shared) (H : Hp) (pins : List (Addr × Obj)) (fp : List Addr) (pz : List (Addr × Obj)) : Cx :=
  { cxLc X scope N cl s H pins fp with pn := X.pn ++ pins ++ pz, xe := notedBy (model X.prog X.w) X.A (compEnvC scope cl s.heap.objs.size X.env) (ErrAt X s.heap.objs.size) }
structure LcAt (X : Cx) (pins : List (Addr × Obj)) (H : Hp) (s : Shared) (fp : List Addr) (pz : List (Addr × Obj)) : Prop where
  inv : ∃ σ, Inv X pins σ H s
  ok : ∀ b ∈ fp, FpOk X pins H b
  has : ∀ b ∈ fp, ∃ o, (b, o) ∈ pz
theorem lc_loopW {prog : Program} {w : World} {A : Around} {R : Result → Shared → Prop} {XE : Value → Shared → Prop} {s : Shared} {elt tg iter : Expr} {scope : Scope} {pos : Pos} {it acc : Value} {env : Env} (hXE : ∀ e s, XE e s → notedBy (model prog w) A env (fun e s' => R (.error e) s') e s) (J : Nat → Shared → Prop)
    (turn : ∀ n s, J n s → wpAny (model prog w) A (pyNext it) (fun r s1 => match r with
      | none => R (.ok .next) s1
      | some v => wpAny (model prog w) A (letOwnedTupleGo tg it v) (fun _ s2 => wpAny (model prog w) A (assign tg env v) (fun _ s3 => wpAny (model prog w) A (eval elt env) (fun x s4 =>
          wpAny (model prog w) A (call (.builtin "list.append") [acc, x]) (fun _ s5 => ∃ m, m < n ∧ J m s5) XE s4) XE s3) XE s2) XE s1) XE s)
    (n : Nat) (h : J n s) : codeAny (model prog w) A (.compLoop (.ListComp elt [⟨tg, iter, [], 0⟩] scope pos) 0 it acc env) R s := by
  refine codeAny_loop rfl J (fun n s hI => ?_) n h
  show wpAny _ A ((compTurn (.ListComp elt [⟨tg, iter, [], 0⟩] scope pos) 0 it acc env).onRaise (fun x => do noteFrame x env; theTreesLotGoes x)) _ _ s
  refine wpAny_noted ?_
  rw [compTurn_list1]
  refine wpAny_bind (wpAny_standAt (wpAny_bind (wpAny_mono (turn n s hI) (fun r s1 h1 => ?_) hXE)))
  cases r with
  | none => exact wpAny_pure h1
  | some v =>
    refine wpAny_bind (wpAny_mono h1 (fun _ s2 h2 => wpAny_bind (wpAny_mono h2 (fun _ s3 h3 => wpAny_bind (wpAny_bind (wpAny_mono h3 (fun x s4 h4 => wpAny_bind (wpAny_mono h4
      (fun _ s5 h5 => wpAny_pure (wpAny_pure ⟨rfl, h5⟩)) hXE)) hXE))) hXE)) hXE)
section
variable {X : Cx} {elt tg iter : Expr} {scope : Scope} {pos : Pos} {wi : TI} {g : TG} {te : TE} {N : List Str} {own : Nat} {fr : List Nat} {cl : List (Str × Addr)}
theorem Inv.pz {s3 s : Shared} {H3 H : Hp} {pins pz : List (Addr × Obj)} {fp : List Addr} {σ : St} (I : Inv (cxLcW X scope N cl s3 H3 pins fp []) ([] ++ pz) σ H s) : Inv (cxLcW X scope N cl s3 H3 pins fp pz) [] σ H s :=
  ⟨⟨I.ok.mod, I.ok.kind, I.ok.glob, I.ok.blt, I.ok.above, I.ok.inj, I.ok.has, I.ok.cab, I.ok.hd, I.ok.frames, I.ok.stk, I.ok.exf, I.ok.bs, I.ok.bsz, I.ok.noex, I.ok.exfs, I.ok.funs, I.ok.frf⟩,
    I.os, I.bare, I.base, I.loc, I.cell, I.free, I.freeC, fun p hp => I.pin p (by simpa [cxLcW] using hp), I.hok, I.len⟩
theorem Inv.ofPz {s3 s : Shared} {H3 H : Hp} {pins pz : List (Addr × Obj)} {fp : List Addr} {σ : St} (I : Inv (cxLcW X scope N cl s3 H3 pins fp pz) [] σ H s) : Inv (cxLcW X scope N cl s3 H3 pins fp []) pz σ H s :=
  ⟨⟨I.ok.mod, I.ok.kind, I.ok.glob, I.ok.blt, I.ok.above, I.ok.inj, I.ok.has, I.ok.cab, I.ok.hd, I.ok.frames, I.ok.stk, I.ok.exf, I.ok.bs, I.ok.bsz, I.ok.noex, I.ok.exfs, I.ok.funs, I.ok.frf⟩,
    I.os, I.bare, I.base, I.loc, I.cell, I.free, I.freeC, fun p hp => I.pin p (by simpa [cxLcW] using hp), I.hok, I.len⟩
theorem lc_blockW (hc : X.calm = true) (F : LcFree X scope cl N own fr) (hk : scope.kind = .function) (hcell : ∀ y ∈ scope.names, y.2 ≠ .cell)
    (hg : ∀ s H pins fp pz, PG (cxLcW X scope N cl s H pins fp pz) tg g) (he : ∀ s H pins fp pz, LcAt X pins H s fp pz → PE (cxLcW X scope N cl s H pins fp pz) elt te)
    {pins : List (Addr × Obj)} {σ : St} {Q : VK} {s2 : Shared} {itv : Value} {RR : Value → Addr → Result → Shared → Prop} {E : Value → Shared → Prop}
    (h : PIE X pins σ tg (fun J H1 => ∀ D, H1 D = none → ∃ W : Nat → Nat → St → Hp → Prop, (∃ m, W 0 m (lcStart own fr σ) (upd H1 D (.lst []))) ∧ ∀ i m σ' H', W i m σ' H' →
      (J.stop i H' ∧ Q (.ref D) H') ∨ (J.go i H' ∧ ∀ x H2, J.yld i H' x H2 → g x σ' H2 fun σ3 H3 => te σ3 H3 fun y H4 => ∃ ys, H4 D = some (.lst ys) ∧ ys.length < sizeLine ∧ ∃ m', m' < m ∧ W (i + 1) m' σ3 (upd H4 D (.lst (ys ++ [y]))))) itv s2)
    (hRR : ∀ (D C : Addr) (H' : Hp) (s' : Shared), Q (.ref D) H' → (∃ m, s'.heap.Ns C m) → H' C = none → C ≠ X.env.locals → (∀ x c, X.env.cells.lookup x = some c → c ≠ C) → (∀ p ∈ X.pn ++ pins, p.1 ≠ C) → X.s₀.heap.objs.size ≤ C →
      (∀ h', Heap.SameBut C s'.heap h' → Inv X pins σ H' { s' with heap := h' }) → RR (.ref D) C (.ok .next) s') (hE : ∀ acc C e s', ErrAt X C e s' → RR acc C (.error e) s') :
    wpAny (model X.prog X.w) X.A (newList []) (fun acc s3 => wpAny (model X.prog X.w) X.A (newFunctionEnv scope X.env.globals cl [] X.env.qual none .none (some X.env)) (fun cenv s4 =>
      codeAny (model X.prog X.w) X.A (.compStart (.ListComp elt [⟨tg, iter, [], 0⟩] scope pos) 0 itv acc { cenv with scope := relabel scope X.env }) (RR acc cenv.locals) s4) E s3) E s2 := by
  obtain ⟨it, fp, tn, J, H2, e, I2, T, st2, f2, q⟩ := h
  subst e
  obtain ⟨W, ⟨m0, w0⟩, turn⟩ := q s2.heap.objs.size I2.fresh
  have I3 := I2.lnew (ys := []) (its := []) (t' := s2.toks) .nil (Nat.zero_le _)
  refine wpAny_newList (items := []) ?_ (Nat.zero_le _)
  generalize hH3 : upd H2 s2.heap.objs.size (.lst []) = H3 at w0 I3
  generalize hs3 : ({ s2 with heap := s2.heap.push { cls := .type "list", data := .seq ([] : List Value).toArray }, toks := s2.toks } : Shared) = s3 at I3
  have fp2 : ∀ b ∈ fp, b < s2.heap.objs.size := fun b hb => by
    obtain ⟨o, eo, _⟩ := T.obj _ _ st2 b hb
    exact Heap.lt_size eo
  have size3 : s3.heap.objs.size = s2.heap.objs.size + 1 := by rw [← hs3]; exact Heap.size_push ..
  have old3 : ∀ b o, s2.heap.get? b = some o → s3.heap.get? b = some o := fun b o z => by rw [← hs3]; exact Heap.get?_push_of_some _ z
  have st3 : tn 0 s3.heap := T.keep _ _ _ st2 fun b _ o z => old3 b o z
  have f3 : ∀ b ∈ fp, FpOk X pins H3 b := fun b hb => ⟨by rw [← hH3, upd_ne (Nat.ne_of_lt (fp2 b hb))]; exact (f2 b hb).1, (f2 b hb).2⟩
  refine wpAny_newFunctionEnv hcell (by intro y hy; simp at hy) (fun h4 hns4 hsb4 => ?_) hk
  have hC4 : ∀ b o, s3.heap.get? b = some o → h4.get? b = some o := fun b o z => (hsb4.2 b (Nat.ne_of_lt (Heap.lt_size z))).trans (Heap.get?_push_of_some _ z)
  have above : X.s₀.heap.objs.size ≤ s3.heap.objs.size := I3.sz
  have hok' : (cxLcW X scope N cl s3 H3 pins fp []).Ok := by
    refine ⟨I3.ok.mod, hk, I3.ok.glob, I3.ok.blt, Nat.le_refl _, ?_, ?_, ?_, I3.ok.hd, I3.ok.frames, .inl rfl, ?_, I3.bs, Nat.le_trans I3.ok.bsz I3.sz, ?_, ?_, I3.stack, I3.stkFree⟩
    · intro x y c a b
      exact I3.ok.inj x y c (F.clo x c a) (F.clo y c b)
    · intro x z
      exact F.has x z
    · intro x c z
      cases z
    · intro b hb
      refine ⟨Nat.ne_of_lt (show b < s3.heap.objs.size by rw [size3]; exact Nat.lt_succ_of_lt (fp2 b hb)), fun x c z => (f3 b hb).2.2.2.2.1 x c (F.clo x c z)⟩
    · intro b o z hb
      rcases (f3 b hb).2.2.2.1 with q | q
      · exact I3.ok.noex b o z q
      · exact absurd (Nat.lt_of_lt_of_le (Heap.lt_size z) I3.ok.bsz) (Nat.not_lt.mpr q)
    · intro b hb hf
      rcases List.mem_cons.mp (I3.stkSub b hf) with q | q
      · exact (f3 b hb).2.1 q
      · exact (f3 b hb).2.2.1 q
  have I4 : Inv (cxLcW X scope N cl s3 H3 pins fp []) [] (lcStart own fr σ) H3 { s3 with heap := h4, toks := s3.toks + ([] : List (Str × Value)).length } := by
    obtain ⟨m, nm, lk⟩ := I3.loc
    refine ⟨hok', rfl, I3.bare, Un.kept hC4, ⟨_, hns4, ?_⟩, ?_, I3.hok.fresh (Nat.le_refl _), ?_, ?_, I3.hok.kept hC4, ?_⟩
    · intro i x v hi hv _
      have hge : ¬ i < own := fun z => by
        unfold lcStart at hv
        rw [List.getElem?_append_left (by rw [List.length_replicate]; exact z), List.getElem?_replicate, if_pos z] at hv
        cases hv
      have hv' : (fr.map fun k => (σ[k]?).join)[i - own]? = some (some v) := by
        unfold lcStart at hv
        rw [List.getElem?_append_right (by rw [List.length_replicate]; omega), List.length_replicate] at hv
        exact hv
      rw [List.getElem?_map] at hv'
      cases ef : fr[i - own]? with
      | none => rw [ef] at hv'; cases hv'
      | some k =>
        rw [ef] at hv'
        have hσ : σ[k]? = some (some v) := by
          have z : (σ[k]?).join = some v := Option.some.inj hv'
          cases eσ : σ[k]? with
          | none => rw [eσ] at z; cases z
          | some y => rw [eσ] at z; exact congrArg some z
        obtain ⟨x', hx1, hx2, hx3, hx4, hx5, hx6⟩ := F.at_ _ _ ef
        have ex : x' = x := by
          rw [show own + (i - own) = i by omega] at hx1
          exact Option.some.inj (hx1.symm.trans hi)
        subst ex
        obtain ⟨u, ru, lu⟩ := lk k x' v hx2 hσ hx3
        refine ⟨u, ru, .inr ⟨hx6, ?_⟩⟩
        rcases lu with ⟨z, _⟩ | ⟨_, c, zc, zi⟩
        · exact absurd z hx4
        · obtain ⟨o, zo, zr⟩ := zi
          exact ⟨c, hx5 c zc, o, hC4 _ _ zo, zr⟩
    · intro x c z
      obtain ⟨v, o, zo, zr⟩ := I3.cell x c (F.clo x c z)
      exact ⟨v, o, hC4 _ _ zo, zr⟩
    · intro x c z
      exact I3.freeC x c (F.clo x c z)
    · intro p hp
      rw [List.append_nil] at hp
      obtain ⟨p1, p2, p3, p4, p5⟩ := I3.pin p (by simpa [cxLcW] using hp)
      refine ⟨hC4 _ _ p1, p2, Nat.ne_of_lt (Heap.lt_size p1), fun z => ?_, p5⟩
      rcases List.mem_cons.mp (I3.stkSub _ z) with q | q
      · exact p3 q
      · exact p4 q
    · show (lcStart own fr σ).length = N.length
      rw [F.len]
      simp [lcStart]
  have f4 : ∀ {H' : Hp}, (∀ b ∈ fp, H' b = none) → ∀ b ∈ fp, FpOk (cxLcW X scope N cl s3 H3 pins fp []) [] H' b := fun hn b hb =>
    ⟨hn b hb, (hok'.exf b hb).1, hok'.exfs b hb, .inl hb, (hok'.exf b hb).2, fun p hp => (f3 b hb).2.2.2.2.2 p (by simpa [cxLcW] using hp)⟩
  have loop : ∀ s5 : Shared, s5 = { s3 with heap := h4, toks := s3.toks + ([] : List (Str × Value)).length } →
      codeAny (model X.prog X.w) X.A (.compLoop (.ListComp elt [⟨tg, iter, [], 0⟩] scope pos) 0 (.ref it) (.ref s2.heap.objs.size) (compEnvC scope cl s3.heap.objs.size X.env)) (RR (.ref s2.heap.objs.size) s3.heap.objs.size) s5 := by
    rintro s5 rfl
    refine lc_loopW (XE := (cxLcW X scope N cl s3 H3 pins fp []).xe) (fun e s' q => wpAny_mono q (fun _ s'' y => hE _ _ _ _ y) fun e' s'' y => hE _ _ _ _ y) (fun n s' => ∃ i σ' H', Inv (cxLcW X scope N cl s3 H3 pins fp []) [] σ' H' s' ∧ tn i s'.heap ∧ (∀ b ∈ fp, H' b = none) ∧ W i n σ' H') ?_ m0
      ⟨0, _, H3, I4, T.keep _ _ _ st3 fun b _ o z => hC4 b o z, fun b hb => (f3 b hb).1, w0⟩
    rintro n s' ⟨i, σ', H', I', st', fr', w'⟩
    rcases turn i n σ' H' w' with ⟨stop, qn⟩ | ⟨go, step⟩
    · refine thn (T.done (cxLcW X scope N cl s3 H3 pins fp []) rfl rfl rfl hc i [] s' σ' H' _ I' (f4 fr') st' stop) fun r s6 ⟨hr, I6⟩ => ?_
      subst hr
      refine hRR _ _ H' s6 qn ?_ I6.free ?_ ?_ ?_ above ?_
      · obtain ⟨m, nm, _⟩ := I6.loc
        exact ⟨m, nm⟩
      · exact Ne.symm (Nat.ne_of_lt I3.lt)
      · intro x c z
        obtain ⟨v, o, zo, _⟩ := I3.cell x c z
        exact Nat.ne_of_lt (Heap.lt_size zo)
      · intro p hp
        exact Nat.ne_of_lt (Heap.lt_size (I3.pin p hp).1)
      · intro h' sb
        have u : Un (frs X.stack) fp H3 H' s3.heap s6.heap := I6.base
        exact I3.call' (s' := { s6 with heap := h' }) (ch := fp) I6.os (u.off (Nat.le_refl _) sb) (I6.hok.off I6.free sb) I6.bare fun b hb => ⟨(f3 b hb).2.2.2.1, (f3 b hb).2.1, (f3 b hb).2.2.2.2.1, (f3 b hb).2.2.2.2.2⟩
    · refine thn (T.item (cxLcW X scope N cl s3 H3 pins fp []) rfl rfl rfl hc i [] s' σ' H' _ I' (f4 fr') st' go) fun r s6 ⟨u, hr, h6⟩ => ?_
      subst hr
      refine thn h6 fun _ s7 ⟨x, H7, I7, r7, y7, st7, fr7⟩ => ?_
      have I7' := (I7.pinned (f4 fr7) (T.obj _ _ st7)).pz
      have pzin : ∀ b ∈ fp, ∃ o, s7.heap.get? b = some o ∧ (b, o) ∈ pinsAt fp s7.heap := fun b hb => by
        obtain ⟨o, z, _⟩ := T.obj _ _ st7 b hb
        exact ⟨o, z, mem_pinsAt hb z⟩
      have gg := hg s3 H3 pins fp _ _ s7 σ' H7 x u _ I7' r7 (step x H7 y7)
      refine thn gg fun _ s8 ⟨σ8, H8, I8, q8⟩ => ?_
      have ee := he s3 H3 pins fp _ ⟨⟨_, I3⟩, f3, fun b hb => let ⟨o, _, z⟩ := pzin b hb; ⟨o, z⟩⟩ _ s8 σ8 H8 _ I8 q8
      refine thn ee fun uy s9 ⟨y, H9, I9, r9, ys, e9, l9, m', hm, w9⟩ => ?_
      have aa := mt_append (X := cxLcW X scope N cl s3 H3 pins fp (pinsAt fp s7.heap)) _ s9 σ8 H9 (.ref s2.heap.objs.size) [y] (.ref s2.heap.objs.size) [uy] (fun _ Hz => Hz = upd H9 s2.heap.objs.size (.lst (ys ++ [y]))) I9 rfl (.cons r9 .nil) ⟨_, ys, y, rfl, rfl, e9, l9, rfl⟩
      refine thn aa fun _ s10 ⟨v, H10, I10, _, e10⟩ => ?_
      subst e10
      have I10' := I10.ofPz
      refine ⟨m', hm, i + 1, σ8, _, I10'.pins_of (fun p hp => by cases hp), ?_, ?_, w9⟩
      · exact T.keep _ _ _ st7 fun b hb o z => (I10'.pin (b, o) (List.mem_append_right _ (mem_pinsAt hb z))).1
      · intro b hb
        obtain ⟨o, z, d⟩ := T.obj _ _ st7 b hb
        exact (I10'.pin (b, o) (List.mem_append_right _ (mem_pinsAt hb z))).2.1
  exact codeAny_compStart_list (loop _ rfl) (T.self _ 0 _ _ _ (T.keep _ _ _ st3 fun b _ o z => hC4 b o z) (loop _ rfl))
theorem pe_lcW (hc : X.calm = true) (hi : PI X tg iter wi) (hclos : closureFor scope X.env = pure cl) (F : LcFree X scope cl N own fr) (hk : scope.kind = .function) (hcell : ∀ y ∈ scope.names, y.2 ≠ .cell)
    (hnm : ∀ y ∈ scope.names, y.2 = .local → scope.names.lookup y.1 = some .local) (hg : ∀ s H pins fp pz, PG (cxLcW X scope N cl s H pins fp pz) tg g) (he : ∀ s H pins fp pz, LcAt X pins H s fp pz → PE (cxLcW X scope N cl s H pins fp pz) elt te)
    (hs : ∀ x, foldedSetIterable iter X.env x = pure x := by intro _; rfl) : PE X (.ListComp elt [⟨tg, iter, [], 0⟩] scope pos) (tLc wi g te own fr) := by
  intro pins s σ H Q I h
  rw [eval_ListComp]
  refine wpAny_comprehension_free (use := none) rfl hs hclos hk hnm ?_
  refine thn (hi pins s σ H _ I h) fun v s1 h1 => thn h1 fun itv s2 h2 => ?_
  refine lc_blockW (RR := fun acc C => compPost (model X.prog X.w) X.A X.xe none (EP X pins σ Q) acc C) hc F hk hcell hg he h2 ?_ fun acc C e s' q => q
  intro D C H' s' q hm _ _ _ _ _ back
  obtain ⟨m, nm⟩ := hm
  exact ⟨m, nm, fun h' sb => ⟨.ref D, H', back h' sb, rfl, q⟩⟩
/-- an exception of a callee in the block -/
theorem passLc {E : XK} (ho : Own X) (hex : X.ex = []) (hL : LandsG X E) {s3 : Shared} {H3 : Hp} {pins pz : List (Addr × Obj)} {fp : List Addr} (L : LcAt X pins H3 s3 fp pz) : PassesS (CXw X.prog X.w) (cxLcW X scope N cl s3 H3 pins fp pz) (fun _ => E) := by
  intro pins' σ' H s e s' I hc
  obtain ⟨⟨σ, I3⟩, hfp, hz⟩ := L
  obtain ⟨ea, cls, H', rfl, os, bare, F, q⟩ := hc
  obtain ⟨B, t, hfl, held⟩ := F.fly
  have n0 : ∀ b : Addr, b ∉ ([] : List Addr) := fun b z => by cases z
  have un3 : Un (frs X.stack) fp H3 H s3.heap s.heap := I.base
  have Fun_ : Un (frs X.stack) [] H H' s.heap s'.heap := F.un
  have hfl : Heap.FlyingW B X.stack ea cls (.ref t) s'.heap := hfl
  have held : ∀ b o, s'.heap.get? b = some o → b ∉ frs X.stack → B.get? b = some o ∨ (s.heap.get? b = none ∧ H' b = none) := held
  have unA : Un (frs X.stack) fp H3 H' s3.heap s'.heap := un3.trans Fun_.more
  obtain ⟨m, hn, -⟩ := I.loc
  have fC : H s3.heap.objs.size = none := I.free
  have hn : s.heap.Ns s3.heap.objs.size m := hn
  obtain ⟨oC, es, ep, gC, dC, rC⟩ := id hn
  have nC : s3.heap.objs.size ∉ frs X.stack := fun z => by
    obtain ⟨_, o, e, _⟩ := I3.stack.mem z
    exact absurd (Heap.lt_size e) (Nat.lt_irrefl _)
  have gC' : s'.heap.get? s3.heap.objs.size = some oC := Fun_.keep _ _ gC fC nC (n0 _)
  have fC' : H' s3.heap.objs.size = none := Fun_.free _ _ gC fC (n0 _)
  have pin : ∀ b ∈ fp, ∃ o, s.heap.get? b = some o ∧ s'.heap.get? b = some o ∧ H' b = none := fun b hb => by
    obtain ⟨o, hp⟩ := hz b hb
    obtain ⟨p1, p2, p3, p4, p5⟩ := I.pin (b, o) (List.mem_append_left _ (List.mem_append_right _ hp))
    exact ⟨o, p1, Fun_.keep b o p1 p2 p4 (n0 _), Fun_.free b o p1 p2 (n0 _)⟩
  obtain ⟨cx, x0⟩ := Fl.of hfl
  have x1 := x0.less (base' := PySem.W.hideAll B [s3.heap.objs.size]) fun b o z => PySem.W.of_hideAll _ z
  have held1 : ∀ b o, s'.heap.get? b = some o → b ∉ frs X.stack → (PySem.W.hideAll B [s3.heap.objs.size]).get? b = some o ∨ (s3.heap.get? b = none ∧ H' b = none) := fun b o e nb => by
    by_cases c : b = s3.heap.objs.size
    · subst c
      exact .inr ⟨Heap.get?_none_of_le (Nat.le_refl _), fC'⟩
    · rcases held b o e nb with z | ⟨z1, z2⟩
      · exact .inl (PySem.W.hideAll_get _ z (by simpa using c))
      · refine .inr ⟨?_, z2⟩
        cases z : s3.heap.get? b with
        | none => rfl
        | some o3 =>
          have nx : b ∉ fp := fun hb => by
            obtain ⟨o', y, _⟩ := pin b hb
            rw [z1] at y
            cases y
          obtain ⟨o', y⟩ := un3.there b o3 z nx
          rw [z1] at y
          cases y
  rw [ho.1] at x1
  show wpAny (model X.prog X.w) X.A (noteFrame (.ref ea) X.env) _ _ s'
  refine fl_note (I3.ok.frames.trans (congrArg some ho.1)) ho.2 x1 fun h4 x4 sm4 => ?_
  rw [← ho.1] at x4
  have R := un_up (P := X.prog) (w := X.w) (l := X.stack) (l0 := X.stack) unA F.hok (fun b mb => by
      obtain ⟨_, o, e, _⟩ := I.stack.mem mb
      exact Fun_.free b o e (I.stkFree b mb) (n0 _)) (fun _ _ _ y => y) (fun _ y => y) (fun b mb => (x0.funs.mem mb).2) held1 (fun b hb => let ⟨o, _, z, _⟩ := pin b hb; ⟨o, z⟩) x4.stays sm4
  refine ⟨m, sm4.ns ⟨oC, es, ep, gC', dC, rC⟩, fun h5 sb cenv _ => ?_⟩
  have ns4 : h4.Ns s3.heap.objs.size m := sm4.ns ⟨oC, es, ep, gC', dC, rC⟩
  have noF : ∀ b o vs, h4.get? b = some o → o.data = .fields vs → b ≠ s3.heap.objs.size := fun b o vs e d z => by
    obtain ⟨o', _, _, e', d', _⟩ := ns4
    rw [z, e'] at e
    cases e
    rw [d'] at d
    cases d
  have x5 : Fl (PySem.W.hideAll B [s3.heap.objs.size]) X.stack ea cls (.ref t) cx (rawInt X.env.locals) h5 := x4.turned (fun b o z => by
      have nb : b ≠ s3.heap.objs.size := fun y => by
        rw [y, PySem.W.hideAll_none _ (by simp)] at z
        cases z
      exact (sb.2 b nb).trans (x4.stays b o z)) (fun b hb o e nf => ⟨o, (sb.2 b fun c => nC (c ▸ hb)).trans e, nf⟩) fun b o vs e d => (sb.2 b (noF b o vs e d)).trans e
  refine fl_pass x5 fun h6 fl6 x6 sm6 => ?_
  have J := I3.call' (s' := { s' with heap := h5 }) (ch := fp) (os.trans I.os) (R.1.off (Nat.le_refl _) sb) (R.2.1.off fC' sb) bare fun b hb => ⟨(hfp b hb).2.2.2.1, (hfp b hb).2.1, (hfp b hb).2.2.2.2.1, (hfp b hb).2.2.2.2.2⟩
  have old : ∀ b, s3.heap.get? b = none → X.s₀.heap.get? b = none := fun b z => by
    cases y : X.s₀.heap.get? b with
    | none => rfl
    | some o =>
      obtain ⟨o', e'⟩ := I3.base.there b o y (by rw [hex]; exact n0 _)
      rw [z] at e'
      cases e'
  refine hL pins σ H' { s' with heap := h5 } _ ea t cls fl6 cx _ J rfl bare x6 (fun b o e nb => ?_) sm6 (old ea ?_) F.free q
  · by_cases c : b = s3.heap.objs.size
    · subst c
      exact .inr ⟨old _ (Heap.get?_none_of_le (Nat.le_refl _)), fC'⟩
    · rcases R.2.2 b o ((sb.2 b c).symm.trans e) nb with z | ⟨z1, z2⟩
      · exact .inl z
      · exact .inr ⟨old b z1, z2⟩
  · cases z : s3.heap.get? ea with
    | none => rfl
    | some o3 =>
      have nw := F.new
      by_cases hb : ea ∈ fp
      · obtain ⟨o', y, _⟩ := pin ea hb
        rw [nw] at y
        cases y
      · obtain ⟨o', y⟩ := un3.there ea o3 z hb
        rw [nw] at y
        cases y
end
end L2

namespace L2
open PySem PySem.Spec PyProof.Rows
section
variable {X : Cx}
/-- xs.insert(i, y) -/
def rInsert : V → List V → Hp → VK → Prop := fun x vs H Q => ∃ (l : Addr) (xs : List V) (i : Int) (y : V), x = .ref l ∧ vs = [.int i, y] ∧ H l = some (.lst xs) ∧ 0 ≤ i ∧ i ≤ (xs.length : Nat) ∧ xs.length < 1000000 ∧ Q .non (upd H l (.lst (xs.take i.toNat ++ y :: xs.drop i.toNat)))
theorem mt_insert : MtM X "list.insert" rInsert := by
  intro pins s σ H x vs v us Q I rx rv h
  obtain ⟨l, xs, i, y, rfl, rfl, hH, h0, hi, hz, q⟩ := h
  cases rx
  obtain ⟨u1, u2, rfl, r1, r2⟩ := vals2 rv
  obtain ⟨t, rfl⟩ := r1
  obtain ⟨z, its, n, r, hl, e⟩ := I.lstM hH
  have hfit : Builtin.List.listFitsIndex i = true := fitsIndex_both (by omega) (by omega)
  refine call_meets F.slot_list_insert ⟨_, e, rfl⟩ F.entry_list_insert (F.args_list_insert_3 _ _ _) (PySem.AutoSeq1.list_insert_list_int_val_1 l its.toArray n i t u2 (by rw [hfit]; decide) (by rw [List.size_toArray]; omega)) ⟨e, ?_⟩
  refine ⟨.non, _, I.lset (its' := its.take i.toNat ++ u2 :: its.drop i.toNat) hH e ?_ ((r.take i.toNat).append (.cons r2 (r.drop i.toNat))) ?_, rfl, q⟩
  · have e1 : (if i < 0 then (i + ((its.toArray.size : Nat) : Int)).toNat else min i.toNat its.toArray.size) = i.toNat := by
      rw [if_neg (by omega), List.size_toArray]
      omega
    show (its.toArray.extract 0 (if i < 0 then (i + ((its.toArray.size : Nat) : Int)).toNat else min i.toNat its.toArray.size)).push u2 ++ its.toArray.extract (if i < 0 then (i + ((its.toArray.size : Nat) : Int)).toNat else min i.toNat its.toArray.size) = _
    rw [e1]
    refine Array.toList_inj.mp ?_
    simp
    exact List.take_of_length_le (by rw [List.length_drop]; exact Nat.le_refl _)
  · rw [List.length_append, List.length_cons, List.length_take, List.length_drop]
    have : (1000000 : Nat) ≤ sizeLine := by decide
    omega
/-- a list of written texts -/
def strsOf : List Expr → Option (List Str)
  | [] => some []
  | .Constant (.str x) _ _ :: r => (strsOf r).map fun l => x :: l
  | _ :: _ => none
def tStrs (cs : List Str) : TA := fun _ H Q => Q (cs.map V.str) H
theorem pa_strs : ∀ (es : List Expr) (cs : List Str), strsOf es = some cs → PA X es (tStrs cs)
  | [], cs, h => by
    cases h
    exact pa_nil
  | e :: es, cs, h => by
    unfold strsOf at h
    split at h
    · rename_i h0
      cases h0
    · rename_i h0
      cases h0
      rename_i x k p
      cases q : strsOf es with
      | none => rw [q] at h; cases h
      | some l =>
        rw [q] at h
        cases h
        exact pa_const pe_str (pa_strs es l q)
    · cases h
theorem pe_lstS {es : List Expr} {pos : Pos} (cs : List Str) (h : strsOf es = some cs) : PE X (.List es pos) (tLst (tStrs cs)) := pe_lst (pa_strs es cs h)
end
end L2

namespace PN
open PySem L2
/-! ### texts that may tell no net -/
theorem JL_mem {c : Nat} : ∀ {ts : List (List Nat)} {t : List Nat} {d : Nat}, t ∈ ts → d ∈ t → d ∈ JL c ts
  | [], _, _, h, _ => by cases h
  | [x], t, d, h, hd => by
    rw [List.mem_singleton] at h
    subst h
    exact hd
  | x :: y :: r, t, d, h, hd => by
    show d ∈ x ++ c :: JL c (y :: r)
    rcases List.mem_cons.mp h with z | z
    · subst z
      exact List.mem_append_left _ hd
    · exact List.mem_append_right _ (List.mem_cons_of_mem _ (JL_mem z hd))
theorem JL_piece {c : Nat} : ∀ {ts : List (List Nat)} {t : List Nat}, t ∈ ts → t.length ≤ (JL c ts).length
  | [], _, h => by cases h
  | [x], t, h => by
    rw [List.mem_singleton] at h
    subst h
    exact Nat.le_refl _
  | x :: y :: r, t, h => by
    show _ ≤ (x ++ c :: JL c (y :: r)).length
    rw [List.length_append, List.length_cons]
    rcases List.mem_cons.mp h with z | z
    · subst z
      omega
    · have := JL_piece (c := c) z
      omega
theorem JL_count {c : Nat} : ∀ ts : List (List Nat), ts.length ≤ (JL c ts).length + 1
  | [] => Nat.zero_le _
  | [x] => by
    show 1 ≤ _
    omega
  | x :: y :: r => by
    have ih := JL_count (c := c) (y :: r)
    show _ ≤ (x ++ c :: JL c (y :: r)).length + 1
    simp only [List.length_append, List.length_cons] at ih ⊢
    omega
theorem split_pieces (x : Str) (c : Nat) : (∀ t ∈ Txt.split x ⟨#[c]⟩, (∀ d ∈ t.cps.toList, d ∈ x.cps.toList) ∧ t.length ≤ x.length) ∧ (Txt.split x ⟨#[c]⟩).length ≤ x.length + 1 := by
  have hj := StrLaws.join_split x ⟨#[c]⟩
  generalize Txt.split x ⟨#[c]⟩ = ts at hj
  have hx : x.cps.toList = JL c (ts.map fun t => t.cps.toList) := by rw [← join_cps, hj]
  have hl : ∀ y : Str, y.length = y.cps.toList.length := fun y => by simp [Str.length]
  refine ⟨fun t ht => ⟨fun d hd => ?_, ?_⟩, ?_⟩
  · rw [hx]
    exact JL_mem (List.mem_map.mpr ⟨t, ht, rfl⟩) hd
  · rw [hl, hl, hx]
    exact JL_piece (List.mem_map.mpr ⟨t, ht, rfl⟩)
  · rw [hl, hx]
    have z := JL_count (c := c) (ts.map fun t => t.cps.toList)
    rw [List.length_map] at z
    exact z
def Asc (x : Str) : Prop := (∀ c ∈ x.cps.toList, c < 128) ∧ x.length ≤ 20
instance (x : Str) : Decidable (Asc x) := inferInstanceAs (Decidable ((∀ c ∈ x.cps.toList, c < 128) ∧ x.length ≤ 20))
theorem Asc.split {x : Str} (h : Asc x) (c : Nat) : ∀ t ∈ Txt.split x ⟨#[c]⟩, Asc t := fun t ht => by
  obtain ⟨z1, z2⟩ := (split_pieces x c).1 t ht
  exact ⟨fun d hd => h.1 d (z1 d hd), Nat.le_trans z2 h.2⟩
theorem Asc.count {x : Str} (h : Asc x) (c : Nat) : (Txt.split x ⟨#[c]⟩).length ≤ 21 := by
  have := (split_pieces x c).2
  have := h.2
  omega
def isFig (c : Nat) : Bool := decide (48 ≤ c) && decide (c ≤ 57)
theorem isFig_iff {c : Nat} : isFig c = true ↔ ∃ d, d < 10 ∧ c = 48 + d := by
  unfold isFig
  rw [Bool.and_eq_true, decide_eq_true_eq, decide_eq_true_eq]
  constructor
  · rintro ⟨h1, h2⟩
    exact ⟨c - 48, by omega, by omega⟩
  · rintro ⟨d, h1, h2⟩
    omega
theorem notFig_in {c : Nat} (h : c < 128) (hf : isFig c = false) : (Builtin.Str.occurrences "0123456789" ⟨#[c]⟩ 0 (("0123456789" : Str).length) 1).isEmpty = true := by
  have z : ∀ c ∈ List.range 128, isFig c = false → (Builtin.Str.occurrences "0123456789" ⟨#[c]⟩ 0 (("0123456789" : Str).length) 1).isEmpty = true := by decide +kernel
  exact z c (List.mem_range.mpr h) hf
def valC (cs : List Nat) : Nat := cs.foldl (fun acc c => acc * 10 + (c - 48)) 0
def numC (cs : List Nat) : Option Nat := if cs = [] ∨ (cs.head? = some 48 ∧ cs ≠ [48]) then none else if cs.all isFig = true then some (valC cs) else none
def numS (x : Str) : Option Nat := numC x.cps.toList
theorem numS_fig (m : Nat) : numS (figS m) = some m := by
  have hl := (decL_length m).1
  unfold numS numC
  rw [figS_cps, if_neg, if_pos]
  · show some (valC (decL m)) = _
    unfold valC
    rw [decL_val]
  · exact List.all_eq_true.mpr fun c hc => isFig_iff.mpr (decL_fig m c hc)
  · rintro (z | ⟨z1, z2⟩)
    · rw [z] at hl
      exact absurd hl (by decide)
    · rcases decL_first m with y | ⟨d, r, h1, h2, h3⟩
      · subst y
        exact z2 (decL_small (by decide))
      · rw [h3] at z1
        have := Option.some.inj z1
        omega
def postOf (x : Str) : Option Post :=
  match Txt.split x ":" with
  | [a, b] => (numS a).bind fun m => (numS b).map fun n => (m, n)
  | _ => none
theorem postOf_good (p : Post) : postOf (postS p) = some p := by
  unfold postOf
  rw [postS_split]
  simp only [numS_fig]
  rfl
def mapP : List Str → Option (List Post)
  | [] => some []
  | x :: r => (postOf x).bind fun p => (mapP r).map fun ps => p :: ps
theorem mapP_snoc (x : Str) : ∀ l : List Str, mapP (l ++ [x]) = (mapP l).bind fun ps => (postOf x).map fun p => ps ++ [p]
  | [] => by
    show (postOf x).bind (fun p => some [p]) = (postOf x).map fun p => [p]
    cases postOf x <;> rfl
  | y :: l => by
    show (postOf y).bind (fun p => (mapP (l ++ [x])).map fun ps => p :: ps) = ((postOf y).bind fun p => (mapP l).map fun ps => p :: ps).bind _
    rw [mapP_snoc x l]
    cases postOf y with
    | none => rfl
    | some p =>
      cases mapP l with
      | none => rfl
      | some ps => cases postOf x <;> rfl
theorem mapP_none {x : Str} (h : postOf x = none) : ∀ {l : List Str}, x ∈ l → mapP l = none
  | [], z => by cases z
  | y :: l, z => by
    show (postOf y).bind (fun p => (mapP l).map fun ps => p :: ps) = none
    rcases List.mem_cons.mp z with e | e
    · subst e
      rw [h]
      rfl
    · rw [mapP_none h e]
      cases postOf y <;> rfl
theorem mapP_len : ∀ {l : List Str} {ps : List Post}, mapP l = some ps → ps.length = l.length
  | [], ps, h => by
    cases h
    rfl
  | y :: l, ps, h => by
    have h' : (postOf y).bind (fun p => (mapP l).map fun ps => p :: ps) = some ps := h
    cases e1 : postOf y with
    | none => rw [e1] at h'; cases h'
    | some p =>
      cases e2 : mapP l with
      | none => rw [e1, e2] at h'; cases h'
      | some qs =>
        rw [e1, e2] at h'
        cases h'
        rw [List.length_cons, List.length_cons, mapP_len e2]
def lineOf (x : Str) : Option (List Post) := mapP (Txt.split x " ")
def linesOf : List Str → Option (List Post)
  | [] => some []
  | x :: r => (lineOf x).bind fun ps => (linesOf r).map fun qs => ps ++ qs
theorem linesOf_app : ∀ a b : List Str, linesOf (a ++ b) = (linesOf a).bind fun ps => (linesOf b).map fun qs => ps ++ qs
  | [], b => by
    show linesOf b = (linesOf b).map fun qs => [] ++ qs
    cases linesOf b <;> rfl
  | y :: l, b => by
    show (lineOf y).bind (fun p => (linesOf (l ++ b)).map fun ps => p ++ ps) = ((lineOf y).bind fun p => (linesOf l).map fun ps => p ++ ps).bind _
    rw [linesOf_app l b]
    cases lineOf y with
    | none => rfl
    | some p =>
      cases linesOf l with
      | none => rfl
      | some ps =>
        cases linesOf b with
        | none => rfl
        | some qs =>
          show some (p ++ (ps ++ qs)) = some (p ++ ps ++ qs)
          rw [List.append_assoc]
theorem linesOf_snoc (x : Str) (l : List Str) : linesOf (l ++ [x]) = (linesOf l).bind fun ps => (lineOf x).map fun qs => ps ++ qs := by
  rw [linesOf_app]
  have e : linesOf [x] = lineOf x := by
    show (lineOf x).bind (fun ps => some (ps ++ [])) = lineOf x
    cases lineOf x with
    | none => rfl
    | some ps => show some (ps ++ []) = some ps; rw [List.append_nil]
  rw [e]
theorem linesOf_none {x : Str} (h : lineOf x = none) : ∀ {l : List Str}, x ∈ l → linesOf l = none
  | [], z => by cases z
  | y :: l, z => by
    show (lineOf y).bind (fun p => (linesOf l).map fun ps => p ++ ps) = none
    rcases List.mem_cons.mp z with e | e
    · subst e
      rw [h]
      rfl
    · rw [linesOf_none h e]
      cases lineOf y <;> rfl
theorem lineOf_good {L : List Post} (h : L ≠ []) : lineOf (lineS L) = some L := by
  unfold lineOf
  rw [lineS_split h]
  clear h
  induction L with
  | nil => rfl
  | cons p L ih =>
    show (postOf (postS p)).bind (fun q => (mapP (L.map postS)).map fun ps => q :: ps) = _
    rw [ih, postOf_good]
    rfl
theorem linesOf_good : ∀ ps : List Post, linesOf (ps.map fun p => lineS [p]) = some ps
  | [] => rfl
  | p :: ps => by
    show (lineOf (lineS [p])).bind (fun q => (linesOf (ps.map fun p => lineS [p])).map fun qs => q ++ qs) = _
    rw [linesOf_good ps, lineOf_good (by simp)]
    rfl
end PN
namespace PN
open PySem L2
def top (i : Nat) : Stmt := PySem.Challenge.pw_postnet_k12_lines_refused.main.body.getD i (.Pass ⟨0, 0, 0, 0⟩)
abbrev s_check_net : Stmt := top 7
abbrev s_number_of : Stmt := top 10
abbrev s_post_of : Stmt := top 11
abbrev s_read : Stmt := top 12
abbrev s__law_whole : Stmt := top 14
abbrev s__law_at : Stmt := top 15
abbrev s__law_posts_by : Stmt := top 16
abbrev s__law_are_posts : Stmt := top 17
abbrev s__law_lines_of : Stmt := top 18
abbrev s__law_net_is : Stmt := top 19
abbrev s__law_refused_so : Stmt := top 20
abbrev s_law : Stmt := top 21
theorem sc_check_net : FnScope ["width", "posts", "number", "post"] ["width", "posts"] (defScope s_check_net) := ⟨rfl, rfl, rfl, by decide +kernel, rfl, by decide +kernel, by decide +kernel⟩
theorem sc_number_of : FnScope ["text", "number", "sign"] ["text"] (defScope s_number_of) := ⟨rfl, rfl, rfl, by decide +kernel, rfl, by decide +kernel, by decide +kernel⟩
theorem sc_post_of : FnScope ["text", "lanes"] ["text"] (defScope s_post_of) := ⟨rfl, rfl, rfl, by decide +kernel, rfl, by decide +kernel, by decide +kernel⟩
theorem sc_read : FnScope ["lines", "width", "posts", "line", "e"] ["lines"] (defScope s_read) := ⟨rfl, rfl, rfl, by decide +kernel, rfl, by decide +kernel, by decide +kernel⟩
theorem sc__law_whole : FnScope ["_law_found"] ["_law_found"] (defScope s__law_whole) := ⟨rfl, rfl, rfl, by decide +kernel, rfl, by decide +kernel, by decide +kernel⟩
theorem sc__law_at : FnScope ["_law_script", "_law_k"] ["_law_script", "_law_k"] (defScope s__law_at) := ⟨rfl, rfl, rfl, by decide +kernel, rfl, by decide +kernel, by decide +kernel⟩
theorem sc__law_posts_by : FnScope ["_law_width", "_law_cells", "_law_posts", "_law_cell", "_law_low", "_law_high"] ["_law_width", "_law_cells"] (defScope s__law_posts_by) := ⟨rfl, rfl, rfl, by decide +kernel, rfl, by decide +kernel, by decide +kernel⟩
theorem sc__law_are_posts : FnScope ["_law_found", "_law_post"] ["_law_found"] (defScope s__law_are_posts) := ⟨rfl, rfl, rfl, by decide +kernel, rfl, by decide +kernel, by decide +kernel⟩
theorem sc__law_lines_of : FnScope ["_law_width", "_law_rows", "_law_lines", "_law_row"] ["_law_width", "_law_rows"] (defScope s__law_lines_of) := ⟨rfl, rfl, rfl, by decide +kernel, rfl, by decide +kernel, by decide +kernel⟩
theorem sc__law_net_is : FnScope ["_law_found", "_law_width", "_law_posts"] ["_law_found", "_law_width", "_law_posts"] (defScope s__law_net_is) := ⟨rfl, rfl, rfl, by decide +kernel, rfl, by decide +kernel, by decide +kernel⟩
theorem sc__law_refused_so : FnScope ["_law_lines", "e", "_law_under"] ["_law_lines"] (defScope s__law_refused_so) := ⟨rfl, rfl, rfl, by decide +kernel, rfl, by decide +kernel, by decide +kernel⟩
theorem sc_law : FnScope ["_law_script", "_law_width", "_law_posts", "_law_lines", "_law_way", "_law_texts", "_law_good", "_law_found", "_law_refused"] ["_law_script"] (defScope s_law) := ⟨rfl, rfl, rfl, by decide +kernel, rfl, by decide +kernel, by decide +kernel⟩
structure Adr where
  a_check_net : Addr
  fd_check_net : FuncData
  a_number_of : Addr
  fd_number_of : FuncData
  a_post_of : Addr
  fd_post_of : FuncData
  a_read : Addr
  fd_read : FuncData
  a__law_whole : Addr
  fd__law_whole : FuncData
  a__law_at : Addr
  fd__law_at : FuncData
  a__law_posts_by : Addr
  fd__law_posts_by : FuncData
  a__law_are_posts : Addr
  fd__law_are_posts : FuncData
  a__law_lines_of : Addr
  fd__law_lines_of : FuncData
  a__law_net_is : Addr
  fd__law_net_is : FuncData
  a__law_refused_so : Addr
  fd__law_refused_so : FuncData
  a_law : Addr
  fd_law : FuncData
  c_NetError : Addr
  c_BadPost : Addr
  c_BadRow : Addr
  c_TooWide : Addr
  c_NoNet : Addr
  t_FIGURES : Tok
structure Txt (K : PySem.W.Frag) (mg : Str → Option Value) (t : Adr) : Prop where
  F_check_net : Fun K "check_net" "check_net" s_check_net t.a_check_net t.fd_check_net
  b_check_net : Binds K t.fd_check_net ["width", "posts"] []
  m_check_net : mg "check_net" = some (.ref t.a_check_net)
  F_number_of : Fun K "number_of" "number_of" s_number_of t.a_number_of t.fd_number_of
  b_number_of : Binds K t.fd_number_of ["text"] []
  m_number_of : mg "number_of" = some (.ref t.a_number_of)
  F_post_of : Fun K "post_of" "post_of" s_post_of t.a_post_of t.fd_post_of
  b_post_of : Binds K t.fd_post_of ["text"] []
  m_post_of : mg "post_of" = some (.ref t.a_post_of)
  F_read : Fun K "read" "read" s_read t.a_read t.fd_read
  b_read : Binds K t.fd_read ["lines"] []
  m_read : mg "read" = some (.ref t.a_read)
  F__law_whole : Fun K "_law_whole" "_law_whole" s__law_whole t.a__law_whole t.fd__law_whole
  b__law_whole : Binds K t.fd__law_whole ["_law_found"] []
  m__law_whole : mg "_law_whole" = some (.ref t.a__law_whole)
  F__law_at : Fun K "_law_at" "_law_at" s__law_at t.a__law_at t.fd__law_at
  b__law_at : Binds K t.fd__law_at ["_law_script", "_law_k"] []
  m__law_at : mg "_law_at" = some (.ref t.a__law_at)
  F__law_posts_by : Fun K "_law_posts_by" "_law_posts_by" s__law_posts_by t.a__law_posts_by t.fd__law_posts_by
  b__law_posts_by : Binds K t.fd__law_posts_by ["_law_width", "_law_cells"] []
  m__law_posts_by : mg "_law_posts_by" = some (.ref t.a__law_posts_by)
  F__law_are_posts : Fun K "_law_are_posts" "_law_are_posts" s__law_are_posts t.a__law_are_posts t.fd__law_are_posts
  b__law_are_posts : Binds K t.fd__law_are_posts ["_law_found"] []
  m__law_are_posts : mg "_law_are_posts" = some (.ref t.a__law_are_posts)
  F__law_lines_of : Fun K "_law_lines_of" "_law_lines_of" s__law_lines_of t.a__law_lines_of t.fd__law_lines_of
  b__law_lines_of : Binds K t.fd__law_lines_of ["_law_width", "_law_rows"] []
  m__law_lines_of : mg "_law_lines_of" = some (.ref t.a__law_lines_of)
  F__law_net_is : Fun K "_law_net_is" "_law_net_is" s__law_net_is t.a__law_net_is t.fd__law_net_is
  b__law_net_is : Binds K t.fd__law_net_is ["_law_found", "_law_width", "_law_posts"] []
  m__law_net_is : mg "_law_net_is" = some (.ref t.a__law_net_is)
  F__law_refused_so : Fun K "_law_refused_so" "_law_refused_so" s__law_refused_so t.a__law_refused_so t.fd__law_refused_so
  b__law_refused_so : Binds K t.fd__law_refused_so ["_law_lines"] []
  m__law_refused_so : mg "_law_refused_so" = some (.ref t.a__law_refused_so)
  F_law : Fun K "law" "law" s_law t.a_law t.fd_law
  b_law : Binds K t.fd_law ["_law_script"] []
  m_law : mg "law" = some (.ref t.a_law)
  z_ValueError : mg "ValueError" = none
  z_bool : mg "bool" = none
  z_enumerate : mg "enumerate" = none
  z_int : mg "int" = none
  z_isinstance : mg "isinstance" = none
  z_len : mg "len" = none
  z_list : mg "list" = none
  z_str : mg "str" = none
  z_tuple : mg "tuple" = none
  k_NetError : mg "NetError" = some (.ref t.c_NetError)
  x_NetError : ExcV K t.c_NetError
  e_NetError : ExcA K t.c_NetError
  m_NetError_NetError : PySem.W.mroIn K t.c_NetError (.ref t.c_NetError) = some true
  i_NetError_NetError : PySem.W.kitOne K (.ref t.c_NetError) (.ref t.c_NetError) = some true
  m_NetError_BadPost : PySem.W.mroIn K t.c_NetError (.ref t.c_BadPost) = some false
  i_NetError_BadPost : PySem.W.kitOne K (.ref t.c_NetError) (.ref t.c_BadPost) = some false
  m_NetError_BadRow : PySem.W.mroIn K t.c_NetError (.ref t.c_BadRow) = some false
  i_NetError_BadRow : PySem.W.kitOne K (.ref t.c_NetError) (.ref t.c_BadRow) = some false
  m_NetError_TooWide : PySem.W.mroIn K t.c_NetError (.ref t.c_TooWide) = some false
  i_NetError_TooWide : PySem.W.kitOne K (.ref t.c_NetError) (.ref t.c_TooWide) = some false
  m_NetError_NoNet : PySem.W.mroIn K t.c_NetError (.ref t.c_NoNet) = some false
  i_NetError_NoNet : PySem.W.kitOne K (.ref t.c_NetError) (.ref t.c_NoNet) = some false
  v_NetError : PySem.W.kitOne K (.ref t.c_NetError) (.type "ValueError") = some true
  k_BadPost : mg "BadPost" = some (.ref t.c_BadPost)
  x_BadPost : ExcV K t.c_BadPost
  e_BadPost : ExcA K t.c_BadPost
  m_BadPost_NetError : PySem.W.mroIn K t.c_BadPost (.ref t.c_NetError) = some true
  i_BadPost_NetError : PySem.W.kitOne K (.ref t.c_BadPost) (.ref t.c_NetError) = some true
  m_BadPost_BadPost : PySem.W.mroIn K t.c_BadPost (.ref t.c_BadPost) = some true
  i_BadPost_BadPost : PySem.W.kitOne K (.ref t.c_BadPost) (.ref t.c_BadPost) = some true
  m_BadPost_BadRow : PySem.W.mroIn K t.c_BadPost (.ref t.c_BadRow) = some false
  i_BadPost_BadRow : PySem.W.kitOne K (.ref t.c_BadPost) (.ref t.c_BadRow) = some false
  m_BadPost_TooWide : PySem.W.mroIn K t.c_BadPost (.ref t.c_TooWide) = some false
  i_BadPost_TooWide : PySem.W.kitOne K (.ref t.c_BadPost) (.ref t.c_TooWide) = some false
  m_BadPost_NoNet : PySem.W.mroIn K t.c_BadPost (.ref t.c_NoNet) = some false
  i_BadPost_NoNet : PySem.W.kitOne K (.ref t.c_BadPost) (.ref t.c_NoNet) = some false
  v_BadPost : PySem.W.kitOne K (.ref t.c_BadPost) (.type "ValueError") = some true
  k_BadRow : mg "BadRow" = some (.ref t.c_BadRow)
  x_BadRow : ExcV K t.c_BadRow
  e_BadRow : ExcA K t.c_BadRow
  m_BadRow_NetError : PySem.W.mroIn K t.c_BadRow (.ref t.c_NetError) = some true
  i_BadRow_NetError : PySem.W.kitOne K (.ref t.c_BadRow) (.ref t.c_NetError) = some true
  m_BadRow_BadPost : PySem.W.mroIn K t.c_BadRow (.ref t.c_BadPost) = some false
  i_BadRow_BadPost : PySem.W.kitOne K (.ref t.c_BadRow) (.ref t.c_BadPost) = some false
  m_BadRow_BadRow : PySem.W.mroIn K t.c_BadRow (.ref t.c_BadRow) = some true
  i_BadRow_BadRow : PySem.W.kitOne K (.ref t.c_BadRow) (.ref t.c_BadRow) = some true
  m_BadRow_TooWide : PySem.W.mroIn K t.c_BadRow (.ref t.c_TooWide) = some false
  i_BadRow_TooWide : PySem.W.kitOne K (.ref t.c_BadRow) (.ref t.c_TooWide) = some false
  m_BadRow_NoNet : PySem.W.mroIn K t.c_BadRow (.ref t.c_NoNet) = some false
  i_BadRow_NoNet : PySem.W.kitOne K (.ref t.c_BadRow) (.ref t.c_NoNet) = some false
  v_BadRow : PySem.W.kitOne K (.ref t.c_BadRow) (.type "ValueError") = some true
  k_TooWide : mg "TooWide" = some (.ref t.c_TooWide)
  x_TooWide : ExcV K t.c_TooWide
  e_TooWide : ExcA K t.c_TooWide
  m_TooWide_NetError : PySem.W.mroIn K t.c_TooWide (.ref t.c_NetError) = some true
  i_TooWide_NetError : PySem.W.kitOne K (.ref t.c_TooWide) (.ref t.c_NetError) = some true
  m_TooWide_BadPost : PySem.W.mroIn K t.c_TooWide (.ref t.c_BadPost) = some false
  i_TooWide_BadPost : PySem.W.kitOne K (.ref t.c_TooWide) (.ref t.c_BadPost) = some false
  m_TooWide_BadRow : PySem.W.mroIn K t.c_TooWide (.ref t.c_BadRow) = some false
  i_TooWide_BadRow : PySem.W.kitOne K (.ref t.c_TooWide) (.ref t.c_BadRow) = some false
  m_TooWide_TooWide : PySem.W.mroIn K t.c_TooWide (.ref t.c_TooWide) = some true
  i_TooWide_TooWide : PySem.W.kitOne K (.ref t.c_TooWide) (.ref t.c_TooWide) = some true
  m_TooWide_NoNet : PySem.W.mroIn K t.c_TooWide (.ref t.c_NoNet) = some false
  i_TooWide_NoNet : PySem.W.kitOne K (.ref t.c_TooWide) (.ref t.c_NoNet) = some false
  v_TooWide : PySem.W.kitOne K (.ref t.c_TooWide) (.type "ValueError") = some true
  k_NoNet : mg "NoNet" = some (.ref t.c_NoNet)
  x_NoNet : ExcV K t.c_NoNet
  e_NoNet : ExcA K t.c_NoNet
  m_NoNet_NetError : PySem.W.mroIn K t.c_NoNet (.ref t.c_NetError) = some true
  i_NoNet_NetError : PySem.W.kitOne K (.ref t.c_NoNet) (.ref t.c_NetError) = some true
  m_NoNet_BadPost : PySem.W.mroIn K t.c_NoNet (.ref t.c_BadPost) = some false
  i_NoNet_BadPost : PySem.W.kitOne K (.ref t.c_NoNet) (.ref t.c_BadPost) = some false
  m_NoNet_BadRow : PySem.W.mroIn K t.c_NoNet (.ref t.c_BadRow) = some false
  i_NoNet_BadRow : PySem.W.kitOne K (.ref t.c_NoNet) (.ref t.c_BadRow) = some false
  m_NoNet_TooWide : PySem.W.mroIn K t.c_NoNet (.ref t.c_TooWide) = some false
  i_NoNet_TooWide : PySem.W.kitOne K (.ref t.c_NoNet) (.ref t.c_TooWide) = some false
  m_NoNet_NoNet : PySem.W.mroIn K t.c_NoNet (.ref t.c_NoNet) = some true
  i_NoNet_NoNet : PySem.W.kitOne K (.ref t.c_NoNet) (.ref t.c_NoNet) = some true
  v_NoNet : PySem.W.kitOne K (.ref t.c_NoNet) (.type "ValueError") = some true
  c_FIGURES : mg "FIGURES" = some (.str "0123456789" t.t_FIGURES)
  bl : ∀ (s : Shared) (v : Value), BindsTo s t.fd_law ⟨[v], []⟩ [("_law_script", v)]
end PN
namespace PN
open PySem L2
/-! ### the promises -/
def sp_check_net : Sp := fun vs H Q _ => ∃ (w : Int) (a : Addr) (ps : List Post), vs = [.int w, .ref a] ∧ Posts H a ps ∧ 1 ≤ w ∧ Net w.toNat ps ∧ ∀ H', Same H H' → Q .non H'
section
variable {P : Program} {w : World} {K : PySem.W.Frag} {mg : Str → Option Value} {base : Heap} {t : Adr}
theorem ok_check_net (T : Txt K mg t) : FnOk P w K mg base CX0 1 t.a_check_net t.fd_check_net ["width", "posts"] sp_check_net := by
  refine T.F_check_net.ok sc_check_net (fun vs H Q E h => ?_) (fun cdv A outer s H vs Q E hr h => ?_)
  · obtain ⟨w, a, ps, rfl, _⟩ := h
    rfl
  · obtain ⟨w, a, ps, rfl, ⟨rs, hl, ht⟩, h1, hn, k⟩ := h
    refine ⟨_, (pss_cons (ps_if (pt_cmpR op_lt (pv 0) pe_int (nomark _)) (pss_one ps_never)
        pss_nil)
      (pss_one (ps_for PassesOwn.never rfl (pi_enum rfl T.z_enumerate (pa_cons (pv 1) pa_nil)) (pg_tup rfl (pgs_cons (pg_name (i := 2) sc_check_net.nd rfl (Or.inl rfl)) (pgs_cons (pg_name (i := 3) sc_check_net.nd rfl (Or.inl rfl)) pgs_nil)))
        (pss_one (ps_if (pt_not (pt_chain3 op_le op_lt op_lt pe_int (pe_ix ix_tup (pv 3) pe_int (fun _ _ => rfl)) (pe_ix ix_tup (pv 3) pe_int (fun _ _ => rfl)) (pv 0))) (pss_one ps_never)
          pss_nil))))), ?_⟩
    refine ⟨_, rfl, _, _, rfl, rfl, _, rfl, ?_⟩
    refine iteDn (by omega) ?_
    refine ⟨_, rfl, a, rfl, ⟨_, SqL.of hl⟩, for_enum (K := K) (a := a) (xs := rs.map V.ref) (fun i σ H2 => ∃ u v : Option V, σ = [some (.int w), some (.ref a), u, v] ∧ Same H H2)
      ⟨none, none, rfl, Same.refl H⟩ (fun i σ H2 _ ⟨_, _, _, s2⟩ => SqL.of (s2 _ _ hl)) ?_ ?_⟩
    · rintro i x q σ H2 hi ⟨u, v, rfl, s2⟩ hq
      obtain ⟨r, hr', rfl⟩ := map_get hi
      obtain ⟨p, hp, er⟩ := ht.get hr'
      obtain ⟨n1, n2⟩ := hn.at hp
      have er2 : (upd H2 q (.tup [.int (i : Nat), .ref r])) r = some (.tup [.int (p.1 : Nat), .int (p.2 : Nat)]) := by
        rw [upd_ne (ne_of_none (s2 _ _ er) hq)]
        exact s2 _ _ er
      refine ⟨q, _, rfl, SqT.of upd_same, rfl, _, _, rfl, _, _, rfl, rfl, ?_⟩
      refine ⟨_, rfl, r, _, _, _, rfl, rfl, SqT.of er2, rfl, _, _, rfl, rfl, _, rfl, ?_⟩
      refine iteD (by omega) ?_
      refine ⟨_, rfl, r, _, _, _, rfl, rfl, SqT.of er2, rfl, _, _, rfl, rfl, _, rfl, ?_⟩
      refine iteD (by omega) ?_
      refine ⟨_, rfl, _, _, rfl, rfl, _, rfl, ?_⟩
      refine iteNS (by omega) ?_
      exact ⟨_, _, rfl, s2.upd (s2.free hq)⟩
    · rintro σ H2 ⟨u, v, rfl, s2⟩
      exact k H2 s2
end
end PN
namespace PN
open PySem L2
/-! ### the law's own helpers -/
def sp_whole : Sp := fun vs H Q _ => ∃ i : Int, vs = [.int i] ∧ Q (.bl true) H
def sp_at : Sp := fun vs H Q _ => ∃ (a : Addr) (k : Nat) (ns : List Int), vs = [.ref a, .int (k : Nat)] ∧ Ints H a ns ∧ ns.length ≤ 1000 ∧ Q (.int (ns.getD k 0)) H
def sp_posts_by : Sp := fun vs H Q _ => ∃ (w : Int) (a : Addr) (cs : List Int), vs = [.int w, .ref a] ∧ Ints H a cs ∧ 1 ≤ w ∧ w ≤ 1000000 ∧ cs.length ≤ 1000 ∧
  ∀ l ps H', Same H H' → H l = none → Posts H' l ps → Net w.toNat ps → ps.length ≤ cs.length → Q (.ref l) H'
section
variable {P : Program} {w : World} {K : PySem.W.Frag} {mg : Str → Option Value} {base : Heap} {t : Adr}
theorem ok__law_whole (T : Txt K mg t) : FnOk P w K mg base CX0 1 t.a__law_whole t.fd__law_whole ["_law_found"] sp_whole := by
  refine T.F__law_whole.ok sc__law_whole (fun vs H Q E h => ?_) (fun cdv A outer s H vs Q E hr h => ?_)
  · obtain ⟨i, rfl, _⟩ := h
    rfl
  · obtain ⟨i, rfl, k⟩ := h
    refine ⟨_, (pss_one (ps_ret (pe_and (pe_callB call_isi (by rfl) T.z_isinstance PyProof.Rows.boot_isinstance (pa_cons (pv 0) (pa_cons (pe_bltn (v := .ty "int") rfl T.z_int PyProof.Rows.boot_int rfl) pa_nil))) (pe_one (pe_not (pe_callB call_isi (by rfl) T.z_isinstance PyProof.Rows.boot_isinstance (pa_cons (pv 0) (pa_cons (pe_bltn (v := .ty "bool") rfl T.z_bool PyProof.Rows.boot_bool rfl) pa_nil)))))))), ?_⟩
    refine ⟨_, rfl, _, _, _, _, rfl, TyOf.int i, kit_ii, _, rfl, ?_⟩
    refine iteT ?_
    exact ⟨_, rfl, _, _, _, _, rfl, TyOf.int i, kit_ib, _, rfl, k⟩
theorem ok__law_at (T : Txt K mg t) : FnOk P w K mg base CX0 1 t.a__law_at t.fd__law_at ["_law_script", "_law_k"] sp_at := by
  refine T.F__law_at.ok sc__law_at (fun vs H Q E h => ?_) (fun cdv A outer s H vs Q E hr h => ?_)
  · obtain ⟨a, i, ns, rfl, _⟩ := h
    rfl
  · obtain ⟨a, i, ns, rfl, ha, hl, k⟩ := h
    refine ⟨_, (pss_cons (ps_if (pt_cmpR op_lt (pv 1) (pe_callB call_len_seq (by rfl) T.z_len PySem.boot_len (pa_cons (pv 0) pa_nil)) (nomark _)) (pss_one (ps_ret (pe_ix ix_list (pv 0) (pv 1) (fun _ _ => rfl))))
        pss_nil)
      (pss_one (ps_ret pe_int))), ?_⟩
    refine ⟨_, rfl, _, rfl, a, _, rfl, .inl (SqL.of ha), _, _, rfl, rfl, _, rfl, ?_⟩
    by_cases c : i < ns.length
    · refine iteD (by rw [List.length_map]; omega) ?_
      exact ⟨_, rfl, _, rfl, a, _, _, _, rfl, rfl, SqL.of ha, at_ints c, k⟩
    · refine iteDn (by rw [List.length_map]; omega) ?_
      have e : ns.getD i 0 = 0 := by rw [List.getD_eq_getElem?_getD, List.getElem?_eq_none (by omega)]; rfl
      rw [e] at k
      exact k
/-- a post by a cell -/
theorem post_by {w c : Int} (h : 1 < w) : 0 ≤ c % (w - 1) ∧ c % (w - 1) < c % (w - 1) + 1 + c / (w - 1) % (w - 1 - c % (w - 1)) ∧ c % (w - 1) + 1 + c / (w - 1) % (w - 1 - c % (w - 1)) < w := by
  have h1 := Int.emod_nonneg c (show w - 1 ≠ 0 by omega)
  have h2 := Int.emod_lt_of_pos c (show 0 < w - 1 by omega)
  have h3 := Int.emod_nonneg (c / (w - 1)) (show w - 1 - c % (w - 1) ≠ 0 by omega)
  have h4 := Int.emod_lt_of_pos (c / (w - 1)) (show 0 < w - 1 - c % (w - 1) by omega)
  omega
theorem ok__law_posts_by (T : Txt K mg t) : FnOk P w K mg base CX0 1 t.a__law_posts_by t.fd__law_posts_by ["_law_width", "_law_cells"] sp_posts_by := by
  refine T.F__law_posts_by.ok sc__law_posts_by (fun vs H Q E h => ?_) (fun cdv A outer s H vs Q E hr h => ?_)
  · obtain ⟨w, a, cs, rfl, _⟩ := h
    rfl
  · obtain ⟨w, a, cs, rfl, ha, h1, hbig, hl, k⟩ := h
    refine ⟨_, (pss_cons (ps_set (i := 2) sc__law_posts_by.nd rfl (Or.inl rfl) (pe_lst pa_nil))
      (pss_cons (ps_for PassesOwn.never rfl (pi_list (pv 1)) (pg_name (i := 3) sc__law_posts_by.nd rfl (Or.inl rfl))
        (pss_one (ps_if (pt_cmpR op_gt (pv 0) pe_int (nomark _)) (pss_cons (ps_set (i := 4) sc__law_posts_by.nd rfl (Or.inl rfl) (pe_op op_mod (pv 3) (pe_op op_sub (pv 0) pe_int)))
          (pss_cons (ps_set (i := 5) sc__law_posts_by.nd rfl (Or.inl rfl) (pe_op op_add (pe_op op_add (pv 4) pe_int) (pe_op op_mod (pe_op op_fdiv (pv 3) (pe_op op_sub (pv 0) pe_int)) (pe_op op_sub (pe_op op_sub (pv 0) pe_int) (pv 4)))))
          (pss_one (ps_expr (pe_bm PySem.F.plainAttrs_list PySem.F.slot_list_append PySem.F.type_list_append mt_append (pv 2) (pa_cons (pe_tup (pa_cons (pv 4) (pa_cons (pv 5) pa_nil))) pa_nil))))))
          pss_nil)))
      (pss_one (ps_ret (pv 2))))), ?_⟩
    refine ⟨Nat.zero_le _, fun l hnl => ?_⟩
    have s0 : Same H (upd H l (.lst [])) := Same.new hnl
    refine ⟨_, rfl, a, rfl, ⟨_, SqL.of (s0 _ _ ha)⟩, for_list (K := K) (a := a) (xs := cs.map V.int) (fun i σ H2 => ∃ (u v y : Option V) (rs : List Addr) (ps : List Post), σ = [some (.int w), some (.ref a), some (.ref l), u, v, y] ∧ Same H H2 ∧
        H2 l = some (.lst (rs.map V.ref)) ∧ Tups H2 rs ps ∧ Net w.toNat ps ∧ ps.length ≤ i)
      ⟨none, none, none, [], [], rfl, s0, upd_same, ⟨rfl, fun i r p z _ => by simp at z⟩, fun p hp => by simp at hp, Nat.le_refl _⟩ (fun i σ H2 _ ⟨_, _, _, _, _, _, s2, _⟩ => SqL.of (s2 _ _ ha)) ?_ ?_⟩
    · rintro i x σ H2 hi ⟨u, v, y, rs, ps, rfl, s2, e2, t2, n2, l2⟩
      have hil : i < cs.length := by
        have z := (List.getElem?_eq_some_iff.mp hi).1
        rw [List.length_map] at z
        exact z
      obtain ⟨c, hc, rfl⟩ := map_get hi
      refine ⟨_, rfl, _, _, rfl, rfl, _, rfl, ?_⟩
      by_cases hw : 1 < w
      · refine iteD hw ?_
        obtain ⟨q1, q2, q3⟩ := post_by (c := c) hw
        refine ⟨_, rfl, _, rfl, _, _, rfl, rfl, _, _, rfl, rfl, (by show 0 < w - 1; omega), ?_⟩
        refine ⟨_, rfl, _, _, rfl, rfl, _, rfl, _, rfl, _, _, rfl, rfl, _, _, rfl, rfl, (show 0 < w - 1 ∧ w - 1 < 1073741824 by omega), _, rfl, _, _, rfl, rfl, _, rfl, _, _, rfl, rfl, _, _, rfl, rfl, (show 0 < w - 1 - c % (w - 1) by
            have z := Int.emod_lt_of_pos c (show 0 < w - 1 by omega)
            omega), _, _, rfl, rfl, ?_⟩
        refine ⟨_, rfl, .inl ⟨rfl, _, SqL.of e2⟩, _, rfl, _, rfl, (by show 2 ≤ sizeLine; decide), fun q hq => ⟨l, _, _, rfl, rfl, (by rw [upd_ne (ne_of_none e2 hq)]; exact e2), big' (by rw [List.length_map, t2.1]; omega), ?_⟩⟩
        have nql : q ≠ l := (ne_of_none e2 hq).symm
        refine ⟨_, _, _, rs ++ [q], ps ++ [((c % (w - 1)).toNat, (c % (w - 1) + 1 + c / (w - 1) % (w - 1 - c % (w - 1))).toNat)], rfl, (s2.upd (s2.free hq)).upd hnl, ?_, ?_, ?_, ?_⟩
        · rw [upd_same, List.map_append]
          rfl
        · refine Tups.snoc ?_ ?_
          · exact (t2.mono (Same.new hq)).keep (tup_keep (by rw [upd_ne nql.symm]; exact e2))
          · rw [upd_ne nql, upd_same]
            have e1 : ((c % (w - 1)).toNat : Int) = c % (w - 1) := by omega
            have e3 : ((c % (w - 1) + 1 + c / (w - 1) % (w - 1 - c % (w - 1))).toNat : Int) = c % (w - 1) + 1 + c / (w - 1) % (w - 1 - c % (w - 1)) := by omega
            show some (HO.tup [.int _, .int _]) = some (HO.tup [.int ((c % (w - 1)).toNat : Int), .int ((c % (w - 1) + 1 + c / (w - 1) % (w - 1 - c % (w - 1))).toNat : Int)])
            rw [e1, e3]
        · intro p hp
          rcases List.mem_append.mp hp with hp | hp
          · exact n2 p hp
          · rw [List.mem_singleton.mp hp]
            show (c % (w - 1)).toNat < (c % (w - 1) + 1 + c / (w - 1) % (w - 1 - c % (w - 1))).toNat ∧ (c % (w - 1) + 1 + c / (w - 1) % (w - 1 - c % (w - 1))).toNat < w.toNat
            omega
        · rw [List.length_append, List.length_singleton]
          omega
      · refine iteDn hw ?_
        exact ⟨_, _, _, rs, ps, rfl, s2, e2, t2, n2, by omega⟩
    · rintro σ H2 ⟨u, v, y, rs, ps, rfl, s2, e2, t2, n2, l2⟩
      rw [List.length_map] at l2
      exact ⟨_, rfl, k l ps H2 s2 hnl ⟨rs, e2, t2⟩ n2 l2⟩
end
end PN
namespace PN
open PySem L2
def sp_are_posts : Sp := fun vs H Q _ => ∃ (a : Addr) (ps : List Post), vs = [.ref a] ∧ Posts H a ps ∧ Q (.bl true) H
section
variable {P : Program} {w : World} {K : PySem.W.Frag} {mg : Str → Option Value} {base : Heap} {t : Adr}
theorem ok__law_are_posts (T : Txt K mg t) : FnOk P w K mg base CX0 2 t.a__law_are_posts t.fd__law_are_posts ["_law_found"] sp_are_posts := by
  have G__law_whole : FnOk P w K mg base CX0 1 t.a__law_whole t.fd__law_whole ["_law_found"] sp_whole := ok__law_whole T
  refine T.F__law_are_posts.ok sc__law_are_posts (fun vs H Q E h => ?_) (fun cdv A outer s H vs Q E hr h => ?_)
  · obtain ⟨a, ps, rfl, _⟩ := h
    rfl
  · obtain ⟨a, ps, rfl, ⟨rs, ha, ht⟩, k⟩ := h
    have hr__law_whole := hr
    refine ⟨_, (pss_cons (ps_if (pt_not (pt_val (pe_callB call_isi (by rfl) T.z_isinstance PyProof.Rows.boot_isinstance (pa_cons (pv 0) (pa_cons (pe_bltn (v := .ty "list") rfl T.z_list PyProof.Rows.boot_list rfl) pa_nil))))) (pss_one (ps_ret pe_bl))
        pss_nil)
      (pss_cons (ps_for PassesOwn.never rfl (pi_list (pv 0)) (pg_name (i := 1) sc__law_are_posts.nd rfl (Or.inl rfl))
        (pss_cons (ps_if (PW.pt (pw_or (pt_not (pt_val (pe_callB call_isi (by rfl) T.z_isinstance PyProof.Rows.boot_isinstance (pa_cons (pv 1) (pa_cons (pe_bltn (v := .ty "tuple") rfl T.z_tuple PyProof.Rows.boot_tuple rfl) pa_nil))))) (pw_or1 (pt_cmpR op_ne (pe_callB call_len_seq (by rfl) T.z_len PySem.boot_len (pa_cons (pv 1) pa_nil)) pe_int (nomark _))))) (pss_one (ps_ret pe_bl))
          pss_nil)
        (pss_one (ps_if (PW.pt (pw_or (pt_not (pt_val (pe_call G__law_whole hr__law_whole rfl T.m__law_whole T.F__law_whole.kp T.b__law_whole .nil pass0 (pa_cons (pe_ix ix_tup (pv 1) pe_int (fun _ _ => rfl)) pa_nil)))) (pw_or1 (pt_not (pt_val (pe_call G__law_whole hr__law_whole rfl T.m__law_whole T.F__law_whole.kp T.b__law_whole .nil pass0 (pa_cons (pe_ix ix_tup (pv 1) pe_int (fun _ _ => rfl)) pa_nil))))))) (pss_one (ps_ret pe_bl))
          pss_nil))))
      (pss_one (ps_ret pe_bl)))), ?_⟩
    refine ⟨_, rfl, _, _, _, _, rfl, TyOf.lst ha, kit_ll, _, rfl, ?_⟩
    refine iteF ?_
    refine ⟨_, rfl, a, rfl, ⟨_, SqL.of ha⟩, for_list (K := K) (a := a) (xs := rs.map V.ref) (fun i σ H2 => ∃ u : Option V, σ = [some (.ref a), u] ∧ H2 = H) ⟨none, rfl, rfl⟩ (fun i σ H2 _ ⟨_, _, e⟩ => by rw [e]; exact SqL.of ha) ?_ ?_⟩
    · rintro i x σ H2 hi ⟨u, rfl, rfl⟩
      obtain ⟨r, hr', rfl⟩ := map_get hi
      obtain ⟨p, hp, er⟩ := ht.get hr'
      refine ⟨_, rfl, _, _, _, _, rfl, TyOf.tup er, kit_tt, _, rfl, ?_⟩
      refine iteF ?_
      refine ⟨_, rfl, r, _, rfl, .inr (SqT.of er), rfl, _, rfl, ?_⟩
      refine iteNS rfl ?_
      refine ⟨_, rfl, r, _, _, _, rfl, rfl, SqT.of er, atI_nat (j := 0) rfl, _, rfl, _, rfl, ?_⟩
      refine iteF ?_
      refine ⟨_, rfl, r, _, _, _, rfl, rfl, SqT.of er, atI_nat (j := 1) rfl, _, rfl, _, rfl, ?_⟩
      refine iteF ?_
      exact ⟨_, rfl, rfl⟩
    · rintro σ H2 ⟨u, rfl, rfl⟩
      exact k
end
end PN
namespace PN
open PySem L2
def LayPosts (H : Hp) (qs : List Addr) (Ls : List (List Post)) : Prop := qs.length = Ls.length ∧ ∀ (k : Nat) q L, qs[k]? = some q → Ls[k]? = some L → Posts H q L
theorem LayPosts.mono {H H' : Hp} {qs : List Addr} {Ls : List (List Post)} (h : LayPosts H qs Ls) (s : Same H H') : LayPosts H' qs Ls := ⟨h.1, fun k q L a b => (h.2 k q L a b).mono s⟩
theorem LayPosts.snoc {H : Hp} {qs : List Addr} {Ls : List (List Post)} {q : Addr} {L : List Post} (h : LayPosts H qs Ls) (p : Posts H q L) : LayPosts H (qs ++ [q]) (Ls ++ [L]) := by
  refine ⟨by rw [List.length_append, List.length_append, h.1]; rfl, fun k q' L' a b => ?_⟩
  rw [List.getElem?_append] at a b
  by_cases c : k < qs.length
  · rw [if_pos c] at a
    rw [if_pos (h.1 ▸ c)] at b
    exact h.2 k q' L' a b
  · rw [if_neg c] at a
    rw [if_neg (h.1 ▸ c), ← h.1] at b
    match k - qs.length, a, b with
    | 0, a, b =>
      cases a
      cases b
      exact p
    | n + 1, a, b => simp at a
end PN
namespace PN
open PySem L2
theorem size_small {n : Nat} (h : n ≤ 1000000) : n ≤ sizeLine := Nat.le_trans h (by decide)
section
variable {P : Program} {w : World} {K : PySem.W.Frag} {mg : Str → Option Value} {base : Heap} {t : Adr}
end
end PN
namespace PN
open PySem L2
/-! ### refusals -/
abbrev IPost := Int × Int
def ITups (H : Hp) (rs : List Addr) (qs : List IPost) : Prop := rs.length = qs.length ∧ ∀ (i : Nat) r q, rs[i]? = some r → qs[i]? = some q → H r = some (.tup [.int q.1, .int q.2])
def IPosts (H : Hp) (a : Addr) (qs : List IPost) : Prop := ∃ rs : List Addr, H a = some (.lst (rs.map V.ref)) ∧ ITups H rs qs
theorem ITups.get {H : Hp} {rs : List Addr} {qs : List IPost} (h : ITups H rs qs) {i : Nat} {r : Addr} (e : rs[i]? = some r) : ∃ q, qs[i]? = some q ∧ H r = some (.tup [.int q.1, .int q.2]) := by
  have hi : i < qs.length := by rw [← h.1]; exact (List.getElem?_eq_some_iff.mp e).1
  exact ⟨qs[i], List.getElem?_eq_getElem hi, h.2 i r _ e (List.getElem?_eq_getElem hi)⟩
def badP (w : Int) (q : IPost) : Bool := !(decide (0 ≤ q.1) && decide (q.1 < q.2) && decide (q.2 < w))
def badN (w : Int) (qs : List IPost) : Bool := decide (w < 1) || qs.any (badP w)
/-- what is refused: the net; its width alone; the row; the width for trying -/
def spB (t : Adr) : Sp := fun vs H _ E => ∃ (w : Int) (a : Addr) (qs : List IPost), vs = [.int w, .ref a] ∧ IPosts H a qs ∧ qs.length ≤ 1000 ∧ badN w qs = true ∧ ∀ ea H', Same H H' → E (.ref t.c_BadPost) (some ea) H'
end PN
namespace PN
open PySem L2
/-! ### lines that may tell no net -/
def ipost (p : Post) : IPost := ((p.1 : Int), (p.2 : Int))
def readOf : List Str → Option (Nat × List Post)
  | [] => none
  | x :: r => (numS x).bind fun w => (linesOf r).bind fun ps => if badN (w : Int) (ps.map ipost) = true then none else some (w, ps)
def sp_num (t : Adr) : Sp := fun vs H Q E => ∃ x : Str, vs = [.str x] ∧ Asc x ∧ (∀ m, numS x = some m → Q (.int (m : Nat)) H) ∧ (numS x = none → ∀ ea, E (.ref t.c_NoNet) (some ea) H)
def sp_post (t : Adr) : Sp := fun vs H Q E => ∃ x : Str, vs = [.str x] ∧ Asc x ∧ (∀ p, postOf x = some p → ∀ r H', Same H H' → H r = none → H' r = some (.tup [.int (p.1 : Nat), .int (p.2 : Nat)]) → Q (.ref r) H') ∧ (postOf x = none → ∀ ea H', Same H H' → E (.ref t.c_NoNet) (some ea) H')
def sp_readW (t : Adr) : Sp := fun vs H Q E => ∃ (a : Addr) (ls : List Str), vs = [.ref a] ∧ H a = some (.lst (ls.map V.str)) ∧ ls.length ≤ 40 ∧ (∀ x ∈ ls, Asc x) ∧
  (∀ w ps, readOf ls = some (w, ps) → ∀ r l H', Same H H' → H r = none → H' r = some (.tup [.int (w : Nat), .ref l]) → Posts H' l ps → Q (.ref r) H') ∧ (readOf ls = none → ∀ ea H', Same H H' → E (.ref t.c_NoNet) (some ea) H')
theorem Posts.toI {H : Hp} {a : Addr} {ps : List Post} (h : Posts H a ps) : IPosts H a (ps.map ipost) := by
  obtain ⟨rs, e, t1, t2⟩ := h
  refine ⟨rs, e, by rw [List.length_map]; exact t1, fun i r q hi hq => ?_⟩
  rw [List.getElem?_map] at hq
  cases hp : ps[i]? with
  | none => rw [hp] at hq; cases hq
  | some p =>
    rw [hp] at hq
    cases hq
    exact t2 i r p hi hp
theorem good_net {w : Nat} {ps : List Post} (h : badN (w : Int) (ps.map ipost) = false) : 1 ≤ w ∧ Net w ps := by
  unfold badN at h
  rw [Bool.or_eq_false_iff] at h
  have g1 : ¬ ((w : Nat) : Int) < 1 := of_decide_eq_false h.1
  refine ⟨by omega, fun p hp => ?_⟩
  have z := List.any_eq_false.mp h.2 (ipost p) (List.mem_map.mpr ⟨p, hp, rfl⟩)
  unfold badP at z
  simp only [Bool.not_eq_true', Bool.not_eq_false, Bool.and_eq_true, decide_eq_true_eq] at z
  have z1 : ((p.1 : Nat) : Int) < ((p.2 : Nat) : Int) := z.1.2
  have z2 : ((p.2 : Nat) : Int) < ((w : Nat) : Int) := z.2
  show p.1 < p.2 ∧ p.2 < w
  omega
theorem sep58 : (":" : Str) = ⟨#[58]⟩ := by decide +kernel
theorem sep32 : (" " : Str) = ⟨#[32]⟩ := by decide +kernel
section
variable {P : Program} {w : World} {K : PySem.W.Frag} {mg : Str → Option Value} {base : Heap} {t : Adr}
theorem nn_check_net (T : Txt K mg t) : FnOk P w K mg base (CXn P w) 1 t.a_check_net t.fd_check_net ["width", "posts"] (spB t) := by
  refine T.F_check_net.okC sc_check_net (fun vs H Q E h => ?_) (fun cdv A outer s H vs Q E hr h => ?_)
  · obtain ⟨w, a, qs, rfl, _⟩ := h
    rfl
  · obtain ⟨w, a, qs, rfl, ⟨rs, hl, ht⟩, hz, hb, k⟩ := h
    refine ⟨_, (pss_cons (ps_if (pt_cmpR op_lt (pv 0) pe_int (nomark _)) (pss_one (ps_raise rfl rfl T.k_BadPost T.x_BadPost madeN pe_str))
        pss_nil)
      (pss_one (ps_for pownW rfl (pi_enum rfl T.z_enumerate (pa_cons (pv 1) pa_nil)) (pg_tup rfl (pgs_cons (pg_name (i := 2) sc_check_net.nd rfl (Or.inl rfl)) (pgs_cons (pg_name (i := 3) sc_check_net.nd rfl (Or.inl rfl)) pgs_nil)))
        (pss_one (ps_if (pt_not (pt_chain3 op_le op_lt op_lt pe_int (pe_ix ix_tup (pv 3) pe_int (fun _ _ => rfl)) (pe_ix ix_tup (pv 3) pe_int (fun _ _ => rfl)) (pv 0))) (pss_one (ps_raise rfl rfl T.k_BadPost T.x_BadPost madeN (pe_fmt (pv 2))))
          pss_nil))))), ?_⟩
    refine ⟨_, rfl, _, _, rfl, rfl, _, rfl, ?_⟩
    by_cases c0 : w < 1
    · exact iteD c0 fun ea he => k ea _ (Same.refl H)
    refine iteDn c0 ?_
    have hany : qs.any (badP w) = true := by
      unfold badN at hb
      rw [decide_eq_false c0, Bool.false_or] at hb
      exact hb
    refine ⟨_, rfl, a, rfl, ⟨_, SqL.of hl⟩, for_enum (K := K) (a := a) (xs := rs.map V.ref) (fun i σ H2 => ∃ u v : Option V, σ = [some (.int w), some (.ref a), u, v] ∧ Same H H2 ∧ ∀ j q, j < i → qs[j]? = some q → badP w q = false)
      ⟨none, none, rfl, Same.refl H, fun j q z _ => absurd z (Nat.not_lt_zero _)⟩ (fun i σ H2 _ ⟨_, _, _, s2, _⟩ => SqL.of (s2 _ _ hl)) ?_ ?_⟩
    · rintro i x q σ H2 hi ⟨u, v, rfl, s2, g2⟩ hq
      obtain ⟨r, hr', rfl⟩ := map_get hi
      obtain ⟨p, hp, er⟩ := ht.get hr'
      have er2 : (upd H2 q (.tup [.int (i : Nat), .ref r])) r = some (.tup [.int p.1, .int p.2]) := by
        rw [upd_ne (ne_of_none (s2 _ _ er) hq)]
        exact s2 _ _ er
      have hil : i < qs.length := (List.getElem?_eq_some_iff.mp hp).1
      have no : ∀ ea, E (.ref t.c_BadPost) (some ea) (upd H2 q (.tup [.int (i : Nat), .ref r])) := fun ea => k ea _ (s2.upd (s2.free hq))
      refine ⟨q, _, rfl, SqT.of upd_same, rfl, _, _, rfl, _, _, rfl, rfl, ?_⟩
      refine ⟨_, rfl, r, _, _, _, rfl, rfl, SqT.of er2, rfl, _, _, rfl, rfl, _, rfl, ?_⟩
      by_cases c1 : 0 ≤ p.1
      · refine iteD c1 ?_
        refine ⟨_, rfl, r, _, _, _, rfl, rfl, SqT.of er2, rfl, _, _, rfl, rfl, _, rfl, ?_⟩
        by_cases c2 : p.1 < p.2
        · refine iteD c2 ?_
          refine ⟨_, rfl, _, _, rfl, rfl, _, rfl, ?_⟩
          by_cases c3 : p.2 < w
          · refine iteNS c3 ?_
            refine ⟨_, _, rfl, s2.upd (s2.free hq), fun j q' hj hj' => ?_⟩
            by_cases e : j = i
            · subst e
              rw [hp] at hj'
              cases hj'
              unfold badP
              rw [decide_eq_true c1, decide_eq_true c2, decide_eq_true c3]
              rfl
            · exact g2 j q' (by omega) hj'
          · refine iteN c3 ?_
            exact ⟨_, rfl, _, rfl, by omega, fun z ea _ => no ea⟩
        · refine iteDn c2 ⟨_, rfl, iteT ?_⟩
          exact ⟨_, rfl, _, rfl, by omega, fun z ea _ => no ea⟩
      · refine iteDn c1 ⟨_, rfl, iteT ?_⟩
        exact ⟨_, rfl, _, rfl, by omega, fun z ea _ => no ea⟩
    · rintro σ H2 ⟨u, v, rfl, s2, g2⟩
      exfalso
      obtain ⟨q, hq, bq⟩ := List.any_eq_true.mp hany
      obtain ⟨j, hj⟩ := List.getElem?_of_mem hq
      have := g2 j q (by rw [List.length_map, ht.1]; exact (List.getElem?_eq_some_iff.mp hj).1) hj
      rw [bq] at this
      cases this
theorem tw_number_of (T : Txt K mg t) : FnOk P w K mg base (CXw P w) 1 t.a_number_of t.fd_number_of ["text"] (sp_num t) := by
  refine T.F_number_of.okW sc_number_of (fun vs H Q E h => ?_) (fun cdv A outer s H vs Q E hr h => ?_)
  · obtain ⟨x, rfl, _⟩ := h
    rfl
  · obtain ⟨x, rfl, hA, k1, k2⟩ := h
    refine ⟨_, (pss_cons (ps_if (PW.pt (pw_or (pt_cmpR op_eq (pv 0) pe_str (nomark _)) (pw_or1 (PW.pt (pw_and (pt_cmpR op_eq (pe_ix ix_str (pv 0) pe_int (fun _ _ => rfl)) pe_str (nomark _)) (pw_and1 (pt_cmpR op_ne (pv 0) pe_str (nomark _)))))))) (pss_one (ps_raise rfl rfl T.k_NoNet T.x_NoNet madeW pe_str))
        pss_nil)
      (pss_cons (ps_set (i := 1) sc_number_of.nd rfl (Or.inl rfl) pe_int)
      (pss_cons (ps_for pownW rfl (pi_str (pv 0)) (pg_name (i := 2) sc_number_of.nd rfl (Or.inl rfl))
        (pss_cons (ps_if (pt_cmpR op_notIn_str (pv 2) (pe_glob (v := .str "0123456789") rfl T.c_FIGURES ⟨_, rfl⟩) rfl) (pss_one (ps_raise rfl rfl T.k_NoNet T.x_NoNet madeW pe_str))
          pss_nil)
        (pss_one (ps_set (i := 1) sc_number_of.nd rfl (Or.inl rfl) (pe_op op_add (pe_op op_mul pe_int (pv 1)) (pe_callTy call_intS (by rfl) T.z_int PyProof.Rows.boot_int (pa_cons (pv 2) pa_nil)))))))
      (pss_one (ps_ret (pv 1)))))), ?_⟩
    have hsz : x.length ≤ sizeLine := size_small (by have := hA.2; omega)
    have e0 : ("" : Str).cps.toList = [] := by decide +kernel
    have e48 : ("0" : Str).cps.toList = [48] := by decide +kernel
    have hs : ∀ y : Str, V.str x = V.str y → x.cps.toList = y.cps.toList := fun y z => congrArg (fun s : Str => s.cps.toList) (V.str.inj z)
    have c128 := hA.1
    have en : numS x = numC x.cps.toList := rfl
    have esz : x.cps.toList.length = x.cps.size := by simp
    obtain ⟨cs, ecs⟩ : ∃ cs, x.cps.toList = cs := ⟨_, rfl⟩
    rw [ecs] at c128 en esz
    have bad : (cs = [] ∨ (cs.head? = some 48 ∧ cs ≠ [48])) → ∀ ea, E (.ref t.c_NoNet) (some ea) H := fun b ea => k2 (by rw [en]; unfold numC; rw [if_pos b]) ea
    refine seq_by (fun σ' Hx => σ' = [some (.str x), none, none] ∧ Hx = H ∧ ¬ (cs = [] ∨ (cs.head? = some 48 ∧ cs ≠ [48]))) (fun N hN' => ?_) (fun σ' Hx ⟨hσ, hHx, hnb⟩ => ?_)
    · refine ⟨_, rfl, rfl, _, rfl, ?_⟩
      cases cs with
      | nil => exact iteD (congrArg V.str (str_ext (by rw [ecs, e0]))) fun ea _ => bad (.inl rfl) ea
      | cons c r =>
        refine iteDn (fun z => by have z' := hs _ z; rw [ecs, e0] at z'; cases z') ?_
        refine ⟨_, rfl, _, _, c, rfl, rfl, hsz, ?_, rfl, _, rfl, ?_⟩
        · rw [ecs]
          exact atI_nat (j := 0) rfl
        by_cases hc : c = 48
        · subst hc
          refine iteD (by decide +kernel) ?_
          refine ⟨_, rfl, rfl, _, rfl, ?_⟩
          by_cases hr0 : r = []
          · subst hr0
            refine iteNS (congrArg V.str (str_ext (by rw [ecs, e48]))) ?_
            exact hN' _ _ ⟨rfl, rfl, fun z => by
              rcases z with z | ⟨_, z⟩
              · cases z
              · exact z rfl⟩
          · refine iteN (fun z => by have z' := hs _ z; rw [ecs, e48] at z'; exact hr0 (List.cons.inj z').2) ?_
            exact fun ea _ => bad (.inr ⟨rfl, fun z => hr0 (List.cons.inj z).2⟩) ea
        · refine iteDn (fun z => ?_) (iteF ?_)
          · have z' := congrArg (fun s : Str => s.cps.toList) (V.str.inj z)
            have z2 : [c] = [48] := by rw [← e48]; exact z'
            exact hc (List.cons.inj z2).1
          · exact hN' _ _ ⟨rfl, rfl, fun z => by
              rcases z with z | ⟨z, _⟩
              · cases z
              · exact hc (Option.some.inj z)⟩
    subst hσ hHx
    refine ⟨_, rfl, x, rfl, for_str (x := x) (fun i σ Hi => ∃ u : Option V, σ = [some (.str x), some (.int ((valC (cs.take i) : Nat) : Int)), u] ∧ Hi = Hx ∧ (cs.take i).all isFig = true)
      ⟨_, rfl, rfl, rfl⟩ ?_ ?_⟩
    · rintro i c σ Hi hc ⟨u, rfl, rfl, hall⟩
      have hc' : cs[i]? = some c := by
        rw [← ecs, ← hc]
        simp
      refine ⟨_, rfl, _, _, rfl, rfl, _, rfl, ?_⟩
      cases hf : isFig c with
      | false =>
        rw [notFig_in (c128 c (List.mem_of_getElem? hc')) hf]
        refine iteT fun ea _ => k2 ?_ ea
        rw [en]
        unfold numC
        rw [if_neg hnb, if_neg]
        intro z
        have := List.all_eq_true.mp z c (List.mem_of_getElem? hc')
        rw [hf] at this
        cases this
      | true =>
        obtain ⟨d, hd, rfl⟩ := isFig_iff.mp hf
        rw [digit_in hd]
        refine iteF ?_
        refine ⟨_, rfl, _, _, rfl, rfl, .inl ⟨by decide, by decide⟩, _, rfl, d, rfl, hd, _, _, rfl, rfl, ?_⟩
        refine ⟨some (.str ⟨#[48 + d]⟩), ?_, rfl, ?_⟩
        · unfold valC
          rw [take_snoc hc', List.foldl_append]
          show [some (V.str x), some (V.int (10 * _ + ((d : Nat) : Int))), _] = [some (V.str x), some (V.int ((_ * 10 + (48 + d - 48) : Nat) : Int)), _]
          generalize (cs.take i).foldl (fun acc c => acc * 10 + (c - 48)) 0 = v
          have e : (10 : Int) * ((v : Nat) : Int) + ((d : Nat) : Int) = ((v * 10 + (48 + d - 48) : Nat) : Int) := by omega
          rw [e]
        · rw [take_snoc hc', List.all_append, hall]
          simpa using hf
    · rintro σ Hi ⟨u, rfl, rfl, hall⟩
      rw [List.take_of_length_le (by rw [esz]; exact Nat.le_refl _)] at hall ⊢
      refine ⟨_, rfl, k1 _ ?_⟩
      rw [en]
      unfold numC
      rw [if_neg hnb, if_pos hall]
theorem tw_post_of (T : Txt K mg t) : FnOk P w K mg base (CXw P w) 2 t.a_post_of t.fd_post_of ["text"] (sp_post t) := by
  have G_number_of := tw_number_of (P := P) (w := w) (base := base) T
  refine T.F_post_of.okW sc_post_of (fun vs H Q E h => ?_) (fun cdv A outer s H vs Q E hr h => ?_)
  · obtain ⟨x, rfl, _⟩ := h
    rfl
  · obtain ⟨x, rfl, hA, k1, k2⟩ := h
    have hr_number_of := hr
    refine ⟨_, (pss_cons (ps_set (i := 1) sc_post_of.nd rfl (Or.inl rfl) (pe_bm PySem.F.plainAttrs_str PySem.F.slot_str_split PySem.F.type_str_split mt_split (pv 0) (pa_const pe_str pa_nil)))
      (pss_cons (ps_if (pt_cmpR op_ne (pe_callB call_len_seq (by rfl) T.z_len PySem.boot_len (pa_cons (pv 1) pa_nil)) pe_int (nomark _)) (pss_one (ps_raise rfl rfl T.k_NoNet T.x_NoNet madeW pe_str))
        pss_nil)
      (pss_one (ps_ret (pe_tup (pa_cons (pe_callS G_number_of hr_number_of rfl T.m_number_of T.F_number_of.kp T.b_number_of passS (pa_cons (pe_ix ix_list (pv 1) pe_int (fun _ _ => rfl)) pa_nil)) (pa_cons (pe_callS G_number_of hr_number_of rfl T.m_number_of T.F_number_of.kp T.b_number_of passS (pa_cons (pe_ix ix_list (pv 1) pe_int (fun _ _ => rfl)) pa_nil)) pa_nil))))))), ?_⟩
    have hAl := hA.2
    refine ⟨_, rfl, rfl, _, _, rfl, rfl, by decide +kernel, size_small (by omega), fun l hln => ?_⟩
    have hp : ∀ y ∈ Txt.split x ":", Asc y := by
      rw [sep58]
      exact hA.split 58
    have hd : postOf x = match Txt.split x ":" with
      | [a, b] => (numS a).bind fun m => (numS b).map fun n => (m, n)
      | _ => none := rfl
    have el : (upd H l (.lst ((Txt.split x ":").map V.str))) l = some (.lst ((Txt.split x ":").map V.str)) := upd_same
    have S := Same.new (o := .lst ((Txt.split x ":").map V.str)) hln
    generalize upd H l (.lst ((Txt.split x ":").map V.str)) = H1 at el S ⊢
    generalize Txt.split x ":" = ts at el hp hd
    refine ⟨_, rfl, l, _, rfl, .inl (SqL.of el), rfl, _, rfl, ?_⟩
    have no : postOf x = none → ∀ ea, E (.ref t.c_NoNet) (some ea) H1 := fun z ea => k2 z ea _ S
    match ts, el, hp, hd with
    | [], el, hp, hd => exact iteN (by decide) fun ea _ => no hd ea
    | [a], el, hp, hd => exact iteN (fun z => absurd (show (1 : Int) = 2 from V.int.inj z) (by decide)) fun ea _ => no hd ea
    | [a, b], el, hp, hd =>
      refine iteNS rfl ?_
      have hA1 := hp a List.mem_cons_self
      have hA2 := hp b (List.mem_cons_of_mem _ List.mem_cons_self)
      have hd' : postOf x = (numS a).bind fun m => (numS b).map fun n => (m, n) := hd
      refine ⟨_, rfl, l, _, _, _, rfl, rfl, SqL.of el, atI_nat (j := 0) rfl, a, rfl, hA1, fun m hm => ?_, fun hn ea => no (by rw [hd', hn]; rfl) ea⟩
      refine ⟨_, rfl, l, _, _, _, rfl, rfl, SqL.of el, atI_nat (j := 1) rfl, b, rfl, hA2, fun n hn => ⟨(by show 2 ≤ sizeLine; decide), fun q hq => ?_⟩, fun hn ea => no (by rw [hd', hm, hn]; rfl) ea⟩
      exact k1 (m, n) (by rw [hd', hm, hn]; rfl) q _ (S.trans (Same.new hq)) (S.free hq) upd_same
    | a :: b :: c :: r, el, hp, hd =>
      refine iteN (fun z => ?_) fun ea _ => no hd ea
      have z' := V.int.inj z
      rw [List.length_map] at z'
      simp only [List.length_cons] at z'
      omega
end
end PN
namespace PN
open PySem L2
section
variable {P : Program} {w : World} {K : PySem.W.Frag} {mg : Str → Option Value} {base : Heap} {t : Adr}
theorem tw_read (T : Txt K mg t) : FnOk P w K mg base (CXw P w) 3 t.a_read t.fd_read ["lines"] (sp_readW t) := by
  have G_number_of := tw_number_of (P := P) (w := w) (base := base) T
  have G_post_of := tw_post_of (P := P) (w := w) (base := base) T
  have G_check_net := ((ok_check_net (P := P) (w := w) (base := base) T).lift (CX := CXn P w)).or (nn_check_net T)
  refine T.F_read.okW sc_read (fun vs H Q E h => ?_) (fun cdv A outer s H vs Q E hr h => ?_)
  · obtain ⟨a, ls, rfl, _⟩ := h
    rfl
  · obtain ⟨a, ls, rfl, ha, hl, hA, k1, k2⟩ := h
    have hr_number_of := hr.mono (j := 1) (by decide)
    have hr_post_of := hr
    have hr_check_net := hr.mono (j := 1) (by decide)
    refine ⟨_, (pss_cons (ps_if (pt_cmpR op_eq (pe_callB call_len_seq (by rfl) T.z_len PySem.boot_len (pa_cons (pv 0) pa_nil)) pe_int (nomark _)) (pss_one (ps_raise rfl rfl T.k_NoNet T.x_NoNet madeW pe_str))
        pss_nil)
      (pss_cons (ps_set (i := 1) sc_read.nd rfl (Or.inl rfl) (pe_callS G_number_of hr_number_of rfl T.m_number_of T.F_number_of.kp T.b_number_of passS (pa_cons (pe_ix ix_list (pv 0) pe_int (fun _ _ => rfl)) pa_nil)))
      (pss_cons (ps_set (i := 2) sc_read.nd rfl (Or.inl rfl) (pe_lst pa_nil))
      (pss_cons (ps_for pownW rfl (pi_list (pe_slice sl_list (pv 0) (po_some pe_int) po_none)) (pg_name (i := 3) sc_read.nd rfl (Or.inl rfl))
        (pss_one (ps_expr (pe_bm PySem.F.plainAttrs_list PySem.F.slot_list_extend PySem.F.type_list_extend mt_extend (pv 2) (pa_cons (pe_lcW rfl (pi_list (pe_bm PySem.F.plainAttrs_str PySem.F.slot_str_split PySem.F.type_str_split mt_split (pv 3) (pa_const pe_str pa_nil))) (by rfl) (LcFree.nil (N := ["text"]) [(".0", .local), ("text", .local), ("post_of", .globalImplicit)] rfl rfl (by decide +kernel)) rfl (by decide +kernel) (by decide +kernel) (fun _ _ _ _ _ => (pg_name (i := 0) (show (["text"] : List Str).Nodup by decide +kernel) rfl (Or.inl rfl))) (fun _ _ _ _ _ L => (pe_callS G_post_of hr_post_of rfl T.m_post_of T.F_post_of.kp T.b_post_of (passLc ⟨rfl, rfl⟩ rfl passG L) (pa_cons (pv 0) pa_nil)))) pa_nil)))))
      (pss_cons (ps_tryN (fun pins EE => (pss_one (ps_expr (pe_callS G_check_net hr_check_net rfl T.m_check_net T.F_check_net.kp T.b_check_net (passN ⟨rfl, rfl⟩) (pa_cons (pv 1) (pa_cons (pv 2) pa_nil))))))
      (ph_from (i := 4) ⟨rfl, rfl⟩ rfl passG rfl T.k_BadPost T.x_BadPost rfl T.k_NoNet T.x_NoNet sc_read.nd rfl rfl))
      (pss_one (ps_ret (pe_tup (pa_cons (pv 1) (pa_cons (pv 2) pa_nil)))))))))), ?_⟩
    refine ⟨_, rfl, a, _, rfl, .inl (SqL.of ha), rfl, _, rfl, ?_⟩
    cases ls with
    | nil => exact iteD rfl fun ea _ => k2 rfl ea _ (Same.refl H)
    | cons x r =>
    refine iteDn (fun z => ?_) ?_
    · have z' := V.int.inj z
      rw [List.length_map, List.length_cons] at z'
      omega
    rw [List.length_cons] at hl
    have hAx := hA x List.mem_cons_self
    have hAr : ∀ y ∈ r, Asc y := fun y hy => hA y (List.mem_cons_of_mem _ hy)
    refine ⟨_, rfl, a, _, _, _, rfl, rfl, SqL.of ha, atI_nat (j := 0) rfl, x, rfl, hAx, fun w hw => ?_, fun hn ea => k2 (by show (numS x).bind _ = _; rw [hn]; rfl) ea _ (Same.refl H)⟩
    have er : readOf (x :: r) = (linesOf r).bind fun ps => if badN (w : Int) (ps.map ipost) = true then none else some (w, ps) := by
      show (numS x).bind _ = _
      rw [hw]
      rfl
    refine ⟨Nat.zero_le _, fun pl hpl => ?_⟩
    have S1 := Same.new (o := .lst []) hpl
    refine ⟨_, rfl, _, rfl, a, _, rfl, SqL.of (S1 _ _ ha), fun sl hsl => ?_⟩
    have ecut : cutV ((x :: r).map V.str) (some 1) none = r.map V.str := by
      unfold cutV
      rw [HT.sIx_none, List.length_map, List.length_cons]
      have e1 : HT.sIx (r.length + 1) 0 (some 1) = 1 := by
        rw [show (1 : Int) = ((1 : Nat) : Int) from rfl, HT.sIx_nat]
        omega
      rw [e1]
      show (r.map V.str).take (r.length + 1 - 1) = _
      rw [Nat.add_sub_cancel]
      exact List.take_of_length_le (by rw [List.length_map]; exact Nat.le_refl _)
    rw [ecut]
    have S2 := S1.trans (Same.new (o := .lst (r.map V.str)) hsl)
    have esl : (upd (upd H pl (.lst [])) sl (.lst (r.map V.str))) sl = some (.lst (r.map V.str)) := upd_same
    have nps : pl ≠ sl := fun z => by rw [← z, upd_same] at hsl; cases hsl
    have epl : (upd (upd H pl (.lst [])) sl (.lst (r.map V.str))) pl = some (.lst []) := by rw [upd_ne nps, upd_same]
    generalize upd (upd H pl (.lst [])) sl (.lst (r.map V.str)) = H2 at S2 esl epl ⊢
    obtain ⟨Hs, hHs⟩ : ∃ Hs : Hp, ∀ b, Hs b = if b = pl then none else H2 b := ⟨_, fun b => rfl⟩
    have Hsp : Hs pl = none := by rw [hHs, if_pos rfl]
    have Hse : ∀ b, b ≠ pl → Hs b = H2 b := fun b nb => by rw [hHs, if_neg nb]
    have Hs2 : Same Hs H2 := fun b o z => by
      by_cases e : b = pl
      · rw [e, Hsp] at z
        cases z
      · rw [Hse b e] at z
        exact z
    have HHs : Same H Hs := fun b o z => by
      rw [Hse b (fun e => by rw [e, hpl] at z; cases z)]
      exact S2 _ _ z
    have ess : Hs sl = some (.lst (r.map V.str)) := by rw [Hse sl nps.symm]; exact esl
    refine ⟨sl, rfl, ⟨_, SqL.of esl⟩, for_list (K := K) (a := sl) (xs := r.map V.str) (fun i σ Hi => ∃ (u3 : Option V) (rs : List Addr) (ps : List Post), σ = [some (.ref a), some (.int (w : Nat)), some (.ref pl), u3, none] ∧ Same Hs Hi ∧ Hi pl = some (.lst (rs.map V.ref)) ∧ Tups Hi rs ps ∧ linesOf (r.take i) = some ps ∧ ps.length ≤ 21 * i)
      ⟨none, [], [], rfl, Hs2, epl, ⟨rfl, fun i r p u v => by simp at u⟩, rfl, Nat.zero_le _⟩ (fun i σ Hi _ ⟨_, _, _, _, si, _⟩ => SqL.of (si _ _ ess)) ?_ ?_⟩
    · rintro i v σ Hi hi ⟨u3, rs, ps, rfl, si, ei, ti, hps, hpl'⟩
      obtain ⟨y, hy, rfl⟩ := map_get hi
      have hym := List.mem_of_getElem? hy
      have hAy := hAr y hym
      have hyl := hAy.2
      have hil := (List.getElem?_eq_some_iff.mp hy).1
      have hrl := ti.1
      refine ⟨_, rfl, .inl ⟨rfl, _, SqL.of ei⟩, _, rfl, rfl, _, _, rfl, rfl, by decide +kernel, size_small (by omega), fun tl htl => ?_⟩
      have S3 := Same.new (o := .lst ((Txt.split y " ").map V.str)) htl
      have etl : (upd Hi tl (.lst ((Txt.split y " ").map V.str))) tl = some (.lst ((Txt.split y " ").map V.str)) := upd_same
      have hpA : ∀ z ∈ Txt.split y " ", Asc z := by
        rw [sep32]
        exact hAy.split 32
      have hpc : (Txt.split y " ").length ≤ 21 := by
        rw [sep32]
        exact hAy.count 32
      have elo : lineOf y = mapP (Txt.split y " ") := rfl
      have ei3 := S3 _ _ ei
      have ti3 := ti.mono S3
      have si3 := si.trans S3
      generalize upd Hi tl (.lst ((Txt.split y " ").map V.str)) = H3 at S3 etl ei3 ti3 si3 ⊢
      generalize Txt.split y " " = ts at etl hpA hpc elo
      refine ⟨tl, rfl, ⟨_, SqL.of etl⟩, fun D hD => lc_list (K := K) (a := tl) (xs := ts.map V.str) (fun j σ4 H4 => ∃ (u : Option V) (qs : List Addr) (pp : List Post), σ4 = [u] ∧ Same H3 H4 ∧ H4 D = some (.lst (qs.map V.ref)) ∧ Tups H4 qs pp ∧ mapP (ts.take j) = some pp)
        ⟨none, [], [], rfl, Same.new hD, upd_same, ⟨rfl, fun i r p u v => by simp at u⟩, rfl⟩ (fun j σ4 H4 _ ⟨_, _, _, _, s4, _⟩ => SqL.of (s4 _ _ etl)) ?_ ?_⟩
      · rintro j v σ4 H4 hj ⟨u, qs, pp, rfl, s4, e4, t4, hpp⟩
        have hjl := (List.getElem?_eq_some_iff.mp hj).1
        obtain ⟨z, hz, rfl⟩ := map_get hj
        have hzm := List.mem_of_getElem? hz
        have hql := t4.1
        have hppl := mapP_len hpp
        rw [List.length_take] at hppl
        refine ⟨_, rfl, z, rfl, hpA z hzm, fun p hp r5 H5 s5 n5 er5 => ?_, fun hn ea H5 s5 => ?_⟩
        · have e5 := s5 _ _ e4
          have nrD : r5 ≠ D := ne_of er5 e5 (by intro z; cases z)
          refine LcEnd.mk e5 (big' (by rw [List.length_map]; omega)) hjl ⟨_, qs ++ [r5], pp ++ [p], rfl, (s4.trans s5).upd hD, ?_, ?_, ?_⟩
          · rw [upd_same, List.map_append]
            rfl
          · refine Tups.snoc ((t4.mono s5).keep (tup_keep e5)) ?_
            rw [upd_ne nrD]
            exact er5
          · rw [take_snoc hz, mapP_snoc, hpp, hp]
            rfl
        · refine k2 ?_ ea H5 (HHs.trans (si3.trans (s4.trans s5)))
          rw [er, linesOf_none (x := y) (by rw [elo]; exact mapP_none hn hzm) hym]
          rfl
      · rintro σ4 H4 ⟨u, qs, pp, rfl, s4, e4, t4, hpp⟩
        rw [List.length_map, List.take_length] at hpp
        have hql := t4.1
        have hppl := mapP_len hpp
        have ei4 := s4 _ _ ei3
        refine ⟨pl, D, _, _, rfl, rfl, ei4, e4, big (by rw [List.length_map, List.length_map]; omega), ?_⟩
        have tk := tup_keep (o := .lst (rs.map V.ref ++ qs.map V.ref)) ei4
        refine ⟨_, rs ++ qs, ps ++ pp, rfl, (si3.trans s4).upd Hsp, by rw [upd_same, List.map_append], Tups.app ((ti3.mono s4).keep tk) (t4.keep tk), ?_, ?_⟩
        · rw [take_snoc hy, linesOf_snoc, hps, elo, hpp]
          rfl
        · rw [List.length_append]
          omega
    · rintro σ Hi ⟨u3, rs, ps, rfl, si, ei, ti, hps, hpl'⟩
      rw [List.length_map] at hps hpl'
      rw [List.take_length] at hps
      have hP : Posts Hi pl ps := ⟨rs, ei, ti⟩
      rw [hps] at er
      have er' : readOf (x :: r) = if badN (w : Int) (ps.map ipost) = true then none else some (w, ps) := er
      cases hb : badN (w : Int) (ps.map ipost) with
      | true =>
        rw [hb, if_pos rfl] at er'
        refine ⟨_, rfl, _, rfl, .inr ⟨((w : Nat) : Int), pl, ps.map ipost, rfl, hP.toI, by rw [List.length_map]; omega, hb, fun ea H5 s5 => ⟨ea, rfl, t.c_BadPost, rfl, T.x_BadPost, T.m_BadPost_BadPost, fun ea2 _ => k2 er' ea2 H5 ((HHs.trans si).trans s5)⟩⟩⟩
      | false =>
        rw [hb, if_neg (by decide)] at er'
        obtain ⟨hw1, hN⟩ := good_net hb
        refine ⟨_, rfl, _, rfl, .inl ⟨((w : Nat) : Int), pl, ps, rfl, hP, by omega, by rw [Int.toNat_natCast]; exact hN, fun H5 s5 => ?_⟩⟩
        refine ⟨_, rfl, _, rfl, (by show 2 ≤ sizeLine; decide), fun q hq => ?_⟩
        have S5 := (HHs.trans si).trans s5
        exact k1 w ps er' q pl _ (S5.trans (Same.new hq)) (S5.free hq) upd_same ((hP.mono s5).mono (Same.new hq))
end
end PN
namespace PN
open PySem L2
def sp_lines_of : Sp := fun vs H Q _ => ∃ (w a : Nat) (qs : List Addr) (Ls : List (List Post)), vs = [.int (w : Nat), .ref a] ∧ H a = some (.lst (qs.map V.ref)) ∧ LayPosts H qs Ls ∧ w ≤ 1000 ∧ Ls.length ≤ 100 ∧ (∀ L ∈ Ls, L.length ≤ 100 ∧ ∀ p ∈ L, p.1 ≤ 1000 ∧ p.2 ≤ 1000) ∧
  ∀ l H', Same H H' → H l = none → H' l = some (.lst ((figS w :: Ls.map lineS).map V.str)) → Q (.ref l) H'
def sp_net_is : Sp := fun vs H Q _ => ∃ (r l b : Addr) (w : Nat) (ps : List Post), vs = [.ref r, .int (w : Nat), .ref b] ∧ H r = some (.tup [.int (w : Nat), .ref l]) ∧ Posts H l ps ∧ Posts H b ps ∧ Q (.bl true) H
section
variable {P : Program} {w : World} {K : PySem.W.Frag} {mg : Str → Option Value} {base : Heap} {t : Adr}
theorem ok__law_net_is (T : Txt K mg t) : FnOk P w K mg base CX0 3 t.a__law_net_is t.fd__law_net_is ["_law_found", "_law_width", "_law_posts"] sp_net_is := by
  have G__law_whole : FnOk P w K mg base CX0 1 t.a__law_whole t.fd__law_whole ["_law_found"] sp_whole := ok__law_whole T
  have G__law_are_posts : FnOk P w K mg base CX0 2 t.a__law_are_posts t.fd__law_are_posts ["_law_found"] sp_are_posts := ok__law_are_posts T
  refine T.F__law_net_is.ok sc__law_net_is (fun vs H Q E h => ?_) (fun cdv A outer s H vs Q E hr h => ?_)
  · obtain ⟨r, l, b, w, ps, rfl, _⟩ := h
    rfl
  · obtain ⟨r, l, b, w, ps, rfl, er, hl, hb, k⟩ := h
    have hu64 := hr.units
    have hr__law_whole := hr.mono (j := 1) (by decide)
    have hr__law_are_posts := hr
    refine ⟨_, (pss_cons (ps_if (PW.pt (pw_or (pt_not (pt_val (pe_callB call_isi (by rfl) T.z_isinstance PyProof.Rows.boot_isinstance (pa_cons (pv 0) (pa_cons (pe_bltn (v := .ty "tuple") rfl T.z_tuple PyProof.Rows.boot_tuple rfl) pa_nil))))) (pw_or (pt_cmpR op_ne (pe_callB call_len_seq (by rfl) T.z_len PySem.boot_len (pa_cons (pv 0) pa_nil)) pe_int (nomark _)) (pw_or1 (pt_not (pt_val (pe_call G__law_whole hr__law_whole rfl T.m__law_whole T.F__law_whole.kp T.b__law_whole .nil pass0 (pa_cons (pe_ix ix_tup (pv 0) pe_int (fun _ _ => rfl)) pa_nil)))))))) (pss_one (ps_ret pe_bl))
        pss_nil)
      (pss_one (ps_ret (pe_and (pe_cmpR op_eq (pe_ix ix_tup (pv 0) pe_int (fun _ _ => rfl)) (pv 1) (nomark _)) (pe_and (pe_call G__law_are_posts hr__law_are_posts rfl T.m__law_are_posts T.F__law_are_posts.kp T.b__law_are_posts .nil pass0 (pa_cons (pe_ix ix_tup (pv 0) pe_int (fun _ _ => rfl)) pa_nil)) (pe_one (pe_cmpR (op_eqD hu64) (pe_ix ix_tup (pv 0) pe_int (fun _ _ => rfl)) (pv 2) (nomark _)))))))), ?_⟩
    refine ⟨_, rfl, _, _, _, _, rfl, TyOf.tup er, kit_tt, _, rfl, ?_⟩
    refine iteF ?_
    refine ⟨_, rfl, r, _, rfl, .inr (.inl (.inl er)), rfl, _, rfl, ?_⟩
    refine iteNS rfl ?_
    refine ⟨_, rfl, r, _, _, _, rfl, rfl, SqT.of er, atI_nat (j := 0) rfl, _, rfl, _, rfl, ?_⟩
    refine iteF ?_
    refine ⟨_, rfl, r, _, _, _, rfl, rfl, SqT.of er, atI_nat (j := 0) rfl, _, rfl, rfl, _, rfl, ?_⟩
    refine iteD rfl ?_
    refine ⟨_, rfl, r, _, _, _, rfl, rfl, SqT.of er, atI_nat (j := 1) rfl, l, ps, rfl, hl, _, rfl, ?_⟩
    refine iteT ?_
    refine ⟨_, rfl, r, _, _, _, rfl, rfl, SqT.of er, atI_nat (j := 1) rfl, _, rfl, _, _, posts_dt hl, posts_dt hb, shaped_posts _, shaped_posts _, ?_⟩
    rw [eqv_posts]
    exact k
theorem ok__law_lines_of (T : Txt K mg t) : FnOk P w K mg base CX0 1 t.a__law_lines_of t.fd__law_lines_of ["_law_width", "_law_rows"] sp_lines_of := by
  refine T.F__law_lines_of.ok sc__law_lines_of (fun vs H Q E h => ?_) (fun cdv A outer s H vs Q E hr h => ?_)
  · obtain ⟨w, a, qs, Ls, rfl, _⟩ := h
    rfl
  · obtain ⟨w, a, qs, Ls, rfl, ha, hL, hw, hLs, hb, k⟩ := h
    refine ⟨_, (pss_cons (ps_set (i := 2) sc__law_lines_of.nd rfl (Or.inl rfl) (pe_lst (pa_cons (pe_callTy call_str_int (by rfl) T.z_str PyProof.Rows.boot_str (pa_cons (pv 0) pa_nil)) pa_nil)))
      (pss_cons (ps_for PassesOwn.never rfl (pi_list (pv 1)) (pg_name (i := 3) sc__law_lines_of.nd rfl (Or.inl rfl))
        (pss_one (ps_expr (pe_bm PySem.F.plainAttrs_list PySem.F.slot_list_append PySem.F.type_list_append mt_append (pv 2) (pa_cons (pe_bm PySem.F.plainAttrs_str PySem.F.slot_str_join PySem.F.type_str_join mt_join pe_str (pa_cons (pe_lc rfl rfl (pi_list (pv 3)) (by rfl) (LcFree.nil (N := ["_law_post"]) [(".0", .local), ("_law_post", .local), ("str", .globalImplicit)] rfl rfl (by decide +kernel)) rfl (by decide +kernel) (by decide +kernel) (fun _ _ _ _ => (pg_name (i := 0) (show (["_law_post"] : List Str).Nodup by decide +kernel) rfl (Or.inl rfl))) (fun _ _ _ _ => (pe_op op_add_str (pe_op op_add_str (pe_callTy call_str_int (by rfl) T.z_str PyProof.Rows.boot_str (pa_cons (pe_ix (ix_tupK (K := K) rfl) (pv 0) pe_int (fun _ _ => rfl)) pa_nil)) pe_str) (pe_callTy call_str_int (by rfl) T.z_str PyProof.Rows.boot_str (pa_cons (pe_ix (ix_tupK (K := K) rfl) (pv 0) pe_int (fun _ _ => rfl)) pa_nil))))) pa_nil)) pa_nil)))))
      (pss_one (ps_ret (pv 2))))), ?_⟩
    have lg : ∀ n : Nat, n ≤ 1000 → ((n : Nat) : Int).natAbs.log2 < 1920 := fun n hn => by
      have z : n.log2 ≤ n := Nat.log2_le_self n
      have e : ((n : Nat) : Int).natAbs = n := Int.natAbs_natCast n
      rw [e]
      omega
    have hql := hL.1
    refine ⟨_, rfl, _, rfl, lg w hw, (by show 1 ≤ sizeLine; decide), fun l hl => ?_⟩
    have el : (upd H l (.lst [V.str (Str.ofString (toString ((w : Nat) : Int)))])) l = some (.lst ([figS w].map V.str)) := by rw [upd_same, figS_str]; rfl
    have S0 := Same.new (o := .lst [V.str (Str.ofString (toString ((w : Nat) : Int)))]) hl
    refine ⟨_, rfl, a, rfl, ⟨_, SqL.of (S0 _ _ ha)⟩, for_list (K := K) (a := a) (xs := qs.map V.ref) (fun i σ Hi => ∃ (u : Option V), σ = [some (.int (w : Nat)), some (.ref a), some (.ref l), u] ∧ Same H Hi ∧ Hi l = some (.lst ((figS w :: (Ls.take i).map lineS).map V.str)))
      ⟨none, rfl, S0, el⟩ (fun i σ Hi _ ⟨_, _, si, _⟩ => SqL.of (si _ _ ha)) ?_ ?_⟩
    · rintro i x σ Hi hi ⟨u, rfl, si, ei⟩
      obtain ⟨q, hq, rfl⟩ := map_get hi
      have hil := (List.getElem?_eq_some_iff.mp hq).1
      have hLi : Ls[i]? = some Ls[i] := List.getElem?_eq_getElem (by omega)
      generalize Ls[i] = L at hLi
      obtain ⟨hLl, hLb⟩ := hb L (List.mem_of_getElem? hLi)
      obtain ⟨rs, er, tr⟩ := (hL.2 i q L hq hLi).mono si
      have hrl := tr.1
      refine ⟨_, rfl, .inl ⟨rfl, _, SqL.of ei⟩, rfl, _, rfl, q, rfl, ⟨_, SqL.of er⟩, fun D hD => lc_list (K := K) (a := q) (xs := rs.map V.ref) (fun j σ3 H3 => ∃ (u : Option V), σ3 = [u] ∧ Same Hi H3 ∧ H3 D = some (.lst (((L.take j).map postS).map V.str)))
        ⟨none, rfl, Same.new hD, upd_same⟩ (fun j σ3 H3 _ ⟨_, _, s3, _⟩ => SqL.of (s3 _ _ er)) ?_ ?_⟩
      · rintro j x σ3 H3 hj ⟨u, rfl, s3, e3⟩
        have hjl := (List.getElem?_eq_some_iff.mp hj).1
        obtain ⟨r, hr', rfl⟩ := map_get hj
        obtain ⟨p, hp, ep⟩ := tr.get hr'
        obtain ⟨b1, b2⟩ := hLb p (List.mem_of_getElem? hp)
        have ep3 := s3 _ _ ep
        have d1 := decL_length p.1
        have d2 := decL_length p.2
        have f1 := figS_length p.1
        have f2 := figS_length p.2
        have fc : (":" : Str).length = 1 := by decide +kernel
        refine ⟨_, rfl, r, _, _, _, rfl, rfl, SqT.of ep3, atI_nat (j := 0) rfl, _, rfl, lg p.1 b1, _, _, rfl, rfl, ?_, _, rfl, r, _, _, _, rfl, rfl, SqT.of ep3, atI_nat (j := 1) rfl, _, rfl, lg p.2 b2, _, _, rfl, rfl, ?_, ?_⟩
        · rw [figS_str]
          exact size_small (by omega)
        · rw [figS_str, figS_str, Str.length_append]
          exact size_small (by omega)
        · rw [figS_str, figS_str]
          refine LcEnd.mk e3 (big' (by rw [List.length_map, List.length_map, List.length_take]; omega)) hjl ⟨_, rfl, s3.upd hD, ?_⟩
          rw [upd_same, take_snoc hp, List.map_append, List.map_append]
          rfl
      · rintro σ3 H3 ⟨u, rfl, s3, e3⟩
        rw [List.length_map, hrl, List.take_length] at e3
        have ei3 := s3 _ _ ei
        refine ⟨_, D, L.map postS, rfl, rfl, SqL.of e3, join_ok (B := 2003) (fun y hy => ?_) ?_, l, _, _, rfl, rfl, ei3, big' (by rw [List.length_map, List.length_cons, List.length_map, List.length_take]; omega), ?_⟩
        · obtain ⟨p, hp, rfl⟩ := List.mem_map.mp hy
          have z := postS_length p
          have := hLb p hp
          omega
        · have e0 : (" " : Str).length = 1 := by decide +kernel
          rw [List.length_map, e0]
          omega
        · refine ⟨_, rfl, (si.trans s3).upd hl, ?_⟩
          rw [upd_same, take_snoc hLi, List.map_append, List.map_cons, List.map_cons, List.map_append]
          rfl
    · rintro σ Hi ⟨u, rfl, si, ei⟩
      rw [List.length_map, hql, List.take_length] at ei
      exact ⟨_, rfl, k l Hi si hl ei⟩
end
end PN
namespace PN
open PySem L2
def spLaw (K : PySem.W.Frag) : Sp := fun vs H Q _ => ∃ (a : Addr) (ns : List Int), vs = [.ref a] ∧ SqL K H a (ns.map V.int) ∧ ns.length ≤ 63 ∧ ∀ H', Q (.bl true) H'
def sp_refused_so : Sp := fun vs H Q _ => ∃ (a : Addr) (ls : List Str), vs = [.ref a] ∧ H a = some (.lst (ls.map V.str)) ∧ ls.length ≤ 40 ∧ (∀ x ∈ ls, Asc x) ∧ readOf ls = none ∧ ∀ H', Same H H' → Q (.bl true) H'
/-! the texts -/
def bigL : Str := "1000000000000"
def TX (w : Nat) : List Str := ["0:1 ", " 0:1", "0:1  0:1", "0-1", "1", "0:1:1", "00:1", "+0:1", "", "0:", ":1", "a:1", "1:0", "0:0", "-1:0", "0:" ++ figS w, "0:1000000000000", "0:01"]
def FX : List Str := ["0", "-1", "", "01", "x", "2 3", "1000000000000"]
theorem asc_fig {m : Nat} (h : m ≤ 12) : Asc (figS m) := by
  have z : ∀ m ∈ List.range 13, Asc (figS m) := by decide +kernel
  exact z m (List.mem_range.mpr (by omega))
theorem asc_post {p : Post} (h1 : p.1 ≤ 12) (h2 : p.2 ≤ 12) : Asc (postS p) := by
  have z : ∀ m ∈ List.range 13, ∀ n ∈ List.range 13, Asc (postS (m, n)) := by decide +kernel
  exact z p.1 (List.mem_range.mpr (by omega)) p.2 (List.mem_range.mpr (by omega))
theorem line_one (p : Post) : lineS [p] = postS p := rfl
theorem lineOf_post (p : Post) : lineOf (postS p) = some [p] := by
  rw [← line_one]
  exact lineOf_good (by simp)
theorem bad_post {w : Nat} {q : Post} (h : ¬ (q.1 < q.2 ∧ q.2 < w)) : badP (w : Int) (ipost q) = true := by
  unfold badP ipost
  simp only [Bool.not_eq_true', Bool.and_eq_false_iff, decide_eq_false_iff_not]
  omega
theorem bad_text {w : Nat} (h1 : 1 ≤ w) (h2 : w ≤ 12) : ∀ x ∈ TX w, Asc x ∧ (lineOf x = none ∨ ∃ q, lineOf x = some [q] ∧ badP (w : Int) (ipost q) = true) := by
  intro x hx
  have e0 : ("0:" : Str) ++ figS w = postS (0, w) := by
    have : ("0:" : Str) = figS 0 ++ (":" : Str) := by decide +kernel
    rw [this]
    rfl
  unfold TX at hx
  rw [e0] at hx
  simp only [List.mem_cons, List.not_mem_nil, or_false] at hx
  rcases hx with rfl | rfl | rfl | rfl | rfl | rfl | rfl | rfl | rfl | rfl | rfl | rfl | rfl | rfl | rfl | rfl | rfl | rfl
  · exact ⟨by decide +kernel, .inl (by decide +kernel)⟩
  · exact ⟨by decide +kernel, .inl (by decide +kernel)⟩
  · exact ⟨by decide +kernel, .inl (by decide +kernel)⟩
  · exact ⟨by decide +kernel, .inl (by decide +kernel)⟩
  · exact ⟨by decide +kernel, .inl (by decide +kernel)⟩
  · exact ⟨by decide +kernel, .inl (by decide +kernel)⟩
  · exact ⟨by decide +kernel, .inl (by decide +kernel)⟩
  · exact ⟨by decide +kernel, .inl (by decide +kernel)⟩
  · exact ⟨by decide +kernel, .inl (by decide +kernel)⟩
  · exact ⟨by decide +kernel, .inl (by decide +kernel)⟩
  · exact ⟨by decide +kernel, .inl (by decide +kernel)⟩
  · exact ⟨by decide +kernel, .inl (by decide +kernel)⟩
  · exact ⟨by decide +kernel, .inr ⟨(1, 0), by decide +kernel, bad_post (by show ¬ (1 < 0 ∧ _); omega)⟩⟩
  · exact ⟨by decide +kernel, .inr ⟨(0, 0), by decide +kernel, bad_post (by show ¬ (0 < 0 ∧ _); omega)⟩⟩
  · exact ⟨by decide +kernel, .inl (by decide +kernel)⟩
  · exact ⟨asc_post (Nat.zero_le _) h2, .inr ⟨(0, w), lineOf_post _, bad_post (by show ¬ (0 < w ∧ w < w); omega)⟩⟩
  · exact ⟨by decide +kernel, .inr ⟨(0, 1000000000000), by decide +kernel, bad_post (by show ¬ (0 < 1000000000000 ∧ 1000000000000 < w); omega)⟩⟩
  · exact ⟨by decide +kernel, .inl (by decide +kernel)⟩
theorem first_text : ∀ x ∈ FX, Asc x ∧ ((x = bigL ∧ numS x = some 1000000000000) ∨ (x ≠ bigL ∧ (numS x = none ∨ numS x = some 0))) := by decide +kernel
theorem net_good {w : Nat} {ps : List Post} (h1 : 1 ≤ w) (hN : Net w ps) : badN (w : Int) (ps.map ipost) = false := by
  unfold badN
  rw [decide_eq_false (by omega : ¬ ((w : Nat) : Int) < 1), Bool.false_or]
  refine List.any_eq_false.mpr fun q hq => ?_
  obtain ⟨p, hp, rfl⟩ := List.mem_map.mp hq
  have z := hN p hp
  unfold badP ipost
  rw [decide_eq_true (by omega : (0 : Int) ≤ ((p.1 : Nat) : Int)), decide_eq_true (by omega : ((p.1 : Nat) : Int) < ((p.2 : Nat) : Int)), decide_eq_true (by omega : ((p.2 : Nat) : Int) < ((w : Nat) : Int))]
  decide
theorem read_good {x : Str} {w : Nat} {ps : List Post} (hx : numS x = some w) (h1 : 1 ≤ w) (hN : Net w ps) : readOf (x :: ps.map fun p => lineS [p]) = some (w, ps) := by
  show (numS x).bind (fun w => (linesOf (ps.map fun p => lineS [p])).bind _) = _
  rw [hx, linesOf_good]
  show (if badN (w : Int) (ps.map ipost) = true then none else some (w, ps)) = _
  rw [net_good h1 hN]
  rfl
theorem read_bad {w : Nat} {ps : List Post} {x : Str} {j : Nat} (hx : lineOf x = none ∨ ∃ q, lineOf x = some [q] ∧ badP (w : Int) (ipost q) = true) : readOf (figS w :: ((ps.map fun p => lineS [p]).take j ++ x :: (ps.map fun p => lineS [p]).drop j)) = none := by
  show (numS (figS w)).bind (fun w => (linesOf _).bind _) = _
  rw [numS_fig]
  show (linesOf _).bind _ = none
  rcases hx with z | ⟨q, z, hb⟩
  · rw [linesOf_none z (List.mem_append_right _ List.mem_cons_self)]
    rfl
  · rw [← List.map_take, ← List.map_drop, linesOf_app, linesOf_good]
    have e : linesOf (x :: (ps.drop j).map fun p => lineS [p]) = some (q :: ps.drop j) := by
      show (lineOf x).bind _ = _
      rw [z, linesOf_good]
      rfl
    rw [e]
    show (if badN (w : Int) ((ps.take j ++ q :: ps.drop j).map ipost) = true then none else _) = none
    rw [if_pos]
    unfold badN
    rw [Bool.or_eq_true]
    exact .inr (List.any_eq_true.mpr ⟨ipost q, List.mem_map.mpr ⟨q, List.mem_append_right _ List.mem_cons_self, rfl⟩, hb⟩)
theorem read_first {x : Str} {r : List Str} (hx : numS x = none ∨ numS x = some 0) : readOf (x :: r) = none := by
  show (numS x).bind (fun w => (linesOf r).bind _) = _
  rcases hx with z | z
  · rw [z]
    rfl
  · rw [z]
    show (linesOf r).bind (fun ps => if badN ((0 : Nat) : Int) (ps.map ipost) = true then none else some (0, ps)) = none
    cases linesOf r with
    | none => rfl
    | some ps => rfl
theorem pick2 {xs : List V} {i : Int} (h0 : 0 ≤ i) (h : i < (xs.length : Nat)) : ∃ v ∈ xs, atI xs i = some v := by
  have hj : i.toNat < xs.length := by omega
  refine ⟨xs[i.toNat], List.getElem_mem hj, ?_⟩
  have z := atI_nat (xs := xs) (j := i.toNat) (List.getElem?_eq_getElem hj)
  rw [show ((i.toNat : Nat) : Int) = i by omega] at z
  exact z
theorem LayPosts.away {H : Hp} {qs : List Addr} {Ls : List (List Post)} {D : Addr} {xs ys : List V} (h : LayPosts H qs Ls) (e : H D = some (.lst xs)) (hq : ∀ q ∈ qs, q ≠ D) : LayPosts (upd H D (.lst ys)) qs Ls :=
  ⟨h.1, fun k q L a b => by
    obtain ⟨rs, e1, t1⟩ := h.2 k q L a b
    exact ⟨rs, (upd_ne (hq q (List.mem_of_getElem? a))).trans e1, t1.keep (tup_keep e)⟩⟩
theorem cut20 (xs : List Int) : (cutI xs (some 4) (some 24)).length ≤ 20 := by
  unfold cutI
  rw [List.length_take, show (some (4 : Int)) = some ((4 : Nat) : Int) from rfl, show (some (24 : Int)) = some ((24 : Nat) : Int) from rfl, HT.sIx_nat, HT.sIx_nat]
  omega
section
variable {P : Program} {w : World} {K : PySem.W.Frag} {mg : Str → Option Value} {base : Heap} {t : Adr}
theorem ok__law_refused_so (T : Txt K mg t) : FnOk P w K mg base CX0 4 t.a__law_refused_so t.fd__law_refused_so ["_law_lines"] sp_refused_so := by
  have G_read := tw_read (P := P) (w := w) (base := base) T
  refine T.F__law_refused_so.ok sc__law_refused_so (fun vs H Q E h => ?_) (fun cdv A outer s H vs Q E hr h => ?_)
  · obtain ⟨a, ls, rfl, _⟩ := h
    rfl
  · obtain ⟨a, ls, rfl, ha, hl, hA, hn, q⟩ := h
    have hr_read := hr
    refine ⟨_, (pss_cons (ps_try (fun pins EE => (pss_one (ps_expr (pe_callS G_read hr_read rfl T.m_read T.F_read.kp T.b_read (passT ⟨rfl, rfl⟩) (pa_cons (pv 0) pa_nil)))))
      (ph_as (i := 1) rfl T.k_NetError T.x_NetError sc__law_refused_so.nd rfl rfl (fun ea => (pss_cons (ps_set (i := 2) sc__law_refused_so.nd rfl (Or.inl rfl) (pe_lst (pa_cons (pe_callB call_isiX (by rfl) T.z_isinstance PyProof.Rows.boot_isinstance (pa_cons (pv 1) (pa_cons (pe_glob (v := .ref t.c_BadPost) rfl T.k_BadPost rfl) pa_nil))) (pa_cons (pe_callB call_isiX (by rfl) T.z_isinstance PyProof.Rows.boot_isinstance (pa_cons (pv 1) (pa_cons (pe_glob (v := .ref t.c_BadRow) rfl T.k_BadRow rfl) pa_nil))) (pa_cons (pe_callB call_isiX (by rfl) T.z_isinstance PyProof.Rows.boot_isinstance (pa_cons (pv 1) (pa_cons (pe_glob (v := .ref t.c_TooWide) rfl T.k_TooWide rfl) pa_nil))) pa_nil)))))
        (pss_cons (ps_set (i := 2) sc__law_refused_so.nd rfl (Or.inl rfl) (pe_op op_cat (pv 2) (pe_lst (pa_cons (pe_callB call_isiX (by rfl) T.z_isinstance PyProof.Rows.boot_isinstance (pa_cons (pv 1) (pa_cons (pe_glob (v := .ref t.c_NoNet) rfl T.k_NoNet rfl) pa_nil))) pa_nil))))
        (pss_one (ps_ret (pe_and (pe_callB call_isiXT (by rfl) T.z_isinstance PyProof.Rows.boot_isinstance (pa_cons (pv 1) (pa_cons (pe_bltn (v := .ty "ValueError") rfl T.z_ValueError PyProof.Rows.Boot.«ValueError» rfl) pa_nil))) (pe_one (pe_cmpR op_eq (pe_bm PySem.F.plainAttrs_list PySem.F.slot_list_count PySem.F.type_list_count mt_count (pv 2) (pa_const pe_bl pa_nil)) pe_int (nomark _)))))))))
      ph_none))
      (pss_one (ps_ret pe_bl))), ?_⟩
    refine ⟨_, rfl, a, ls, rfl, ha, hl, hA, fun w ps e => (by rw [hn] at e; cases e), fun _ ea H' s' => ⟨ea, rfl, t.c_NoNet, true, rfl, T.x_NoNet, T.m_NoNet_NetError, iteT fun hea => ⟨_, rfl, ea, t.c_BadPost, t.c_NoNet, false, rfl, upd_same, T.e_NoNet, T.x_NoNet, T.i_NoNet_BadPost, _, rfl, ea, t.c_BadRow, t.c_NoNet, false, rfl, upd_same, T.e_NoNet, T.x_NoNet, T.i_NoNet_BadRow, _, rfl, ea, t.c_TooWide, t.c_NoNet, false, rfl, upd_same, T.e_NoNet, T.x_NoNet, T.i_NoNet_TooWide, (by show 3 ≤ sizeLine; decide), fun l1 n1 =>
          have x1 := (upd_ne (ne_of_none upd_same n1)).trans upd_same
          have S1 := s'.upd (s'.free hea)
          have S2 := S1.upd (S1.free n1)
          ⟨_, rfl, _, rfl, ea, t.c_NoNet, t.c_NoNet, true, rfl, x1, T.e_NoNet, T.x_NoNet, T.i_NoNet_NoNet, (by show 1 ≤ sizeLine; decide), fun l2 n2 =>
          have x2 := (upd_ne (ne_of_none x1 n2)).trans x1
          have y2 := (upd_ne (ne_of_none upd_same n2)).trans upd_same
          have S3 := S2.upd (S2.free n2)
          ⟨l1, l2, _, _, rfl, rfl, y2, upd_same, (by show 4 ≤ sizeLine; decide), fun l3 n3 =>
          have x3 := (upd_ne (ne_of_none x2 n3)).trans x2
          have S4 := S3.upd (S3.free n3)
          ⟨_, rfl, ea, "ValueError", t.c_NoNet, true, rfl, x3, T.e_NoNet, T.x_NoNet, T.v_NoNet, _, rfl, iteT ⟨_, rfl, .inl ⟨rfl, _, SqL.of upd_same⟩, l3, [false, false, false, true], rfl, rfl, upd_same, rfl, q _ S4⟩⟩⟩⟩⟩⟩⟩
end
end PN
namespace PN
open PySem L2
set_option autoImplicit false
/-! the law's body with two written lists as names -/
def put5 (es : List Expr) : Stmt → Stmt
  | .Assign ts (.List _ p) q => .Assign ts (.List es p) q
  | s => s
def get5 : Stmt → List Expr
  | .Assign _ (.List es _) _ => es
  | _ => []
def put9 (es : List Expr) : Stmt → Stmt
  | .If c (.Assign ts (.BinOp (.List [.Subscript (.List _ p1) i p2] p3) op r p4) p5 :: b) o q => .If c (.Assign ts (.BinOp (.List [.Subscript (.List es p1) i p2] p3) op r p4) p5 :: b) o q
  | s => s
def get9 : Stmt → List Expr
  | .If _ (.Assign _ (.BinOp (.List [.Subscript (.List es _) _ _] _) _ _ _) _ :: _) _ _ => es
  | _ => []
def bodyV (e5 e9 : List Expr) : List Stmt :=
  match defBody s_law with
  | s0 :: s1 :: s2 :: s3 :: s4 :: s5 :: s6 :: s7 :: s8 :: s9 :: r => s0 :: s1 :: s2 :: s3 :: s4 :: put5 e5 s5 :: s6 :: s7 :: s8 :: put9 e9 s9 :: r
  | _ => []
abbrev T5 : List Str := ["0:1 ", " 0:1", "0:1  0:1", "0-1", "1", "0:1:1", "00:1", "+0:1", "", "0:", ":1", "a:1"]
abbrev T9 : List Str := ["0", "-1", "", "01", "x", "2 3", "1000000000000"]
noncomputable def lawT4 {P : Program} {w : World} {K : PySem.W.Frag} {mg : Str → Option Value} {base : Heap} {t : Adr} (T : Txt K mg t) (G__law_at : FnOk P w K mg base CX0 1 t.a__law_at t.fd__law_at ["_law_script", "_law_k"] sp_at)
    (G__law_posts_by : FnOk P w K mg base CX0 1 t.a__law_posts_by t.fd__law_posts_by ["_law_width", "_law_cells"] sp_posts_by) (G__law_lines_of : FnOk P w K mg base CX0 1 t.a__law_lines_of t.fd__law_lines_of ["_law_width", "_law_rows"] sp_lines_of)
    (G__law_net_is : FnOk P w K mg base CX0 3 t.a__law_net_is t.fd__law_net_is ["_law_found", "_law_width", "_law_posts"] sp_net_is) (G__law_refused_so : FnOk P w K mg base CX0 4 t.a__law_refused_so t.fd__law_refused_so ["_law_lines"] sp_refused_so) (G_read : FnOk P w K mg base (CXw P w) 3 t.a_read t.fd_read ["lines"] (sp_readW t))
    (e5 e9 : List Expr) (h_94 : strsOf e5 = some T5) (h_100 : strsOf e9 = some T9) (cdv : Value) (A : Around) (outer : List Env) (s : Shared) (H : Hp) (E : XK) (hr__law_at : Room 1 (A.deeper (PyProof.Rows.envOfC "law" (defScope s_law) s.heap.objs.size t.a_law cdv))) (hr__law_posts_by : Room 1 (A.deeper (PyProof.Rows.envOfC "law" (defScope s_law) s.heap.objs.size t.a_law cdv))) (hr__law_lines_of : Room 1 (A.deeper (PyProof.Rows.envOfC "law" (defScope s_law) s.heap.objs.size t.a_law cdv))) (hr__law_net_is : Room 3 (A.deeper (PyProof.Rows.envOfC "law" (defScope s_law) s.heap.objs.size t.a_law cdv))) (hr__law_refused_so : Room 4 (A.deeper (PyProof.Rows.envOfC "law" (defScope s_law) s.heap.objs.size t.a_law cdv))) (hr_read : Room 3 (A.deeper (PyProof.Rows.envOfC "law" (defScope s_law) s.heap.objs.size t.a_law cdv))) :
    { tt : TS // PSs (cxOf CX0 P w K mg base ["_law_script", "_law_width", "_law_posts", "_law_lines", "_law_way", "_law_texts", "_law_good", "_law_found", "_law_refused"] "law" (defScope s_law) t.a_law cdv A outer s H E).nox ((bodyV e5 e9).drop 13) tt } := ⟨_, (pss_cons (ps_try (fun pins EE => (pss_one (ps_set (i := 7) sc_law.nd rfl (Or.inl rfl) (pe_callS G_read hr_read rfl T.m_read T.F_read.kp T.b_read (passT ⟨rfl, rfl⟩) (pa_cons (pe_callTy (call_list_ofK (K := K) rfl) (by rfl) T.z_list PyProof.Rows.boot_list (pa_cons (pv 3) pa_nil)) pa_nil)))))
      (ph_own rfl T.k_NoNet T.x_NoNet (fun ea => (pss_one (ps_set (i := 8) sc_law.nd rfl (Or.inl rfl) pe_bl)))
      ph_none))
      (pss_cons (ps_if (pt_not (pt_val (pv 6))) (pss_one (ps_ret (pe_and (pv 8) (pe_one (pe_call G__law_refused_so hr__law_refused_so rfl T.m__law_refused_so T.F__law_refused_so.kp T.b__law_refused_so .nil pass0 (pa_cons (pv 3) pa_nil))))))
        pss_nil)
      (pss_one (ps_ret (pe_and (pe_not (pv 8)) (pe_one (pe_call G__law_net_is hr__law_net_is rfl T.m__law_net_is T.F__law_net_is.kp T.b__law_net_is .nil pass0 (pa_cons (pv 7) (pa_cons (pv 1) (pa_cons (pv 2) pa_nil))))))))))⟩
noncomputable def lawT3 {P : Program} {w : World} {K : PySem.W.Frag} {mg : Str → Option Value} {base : Heap} {t : Adr} (T : Txt K mg t) (G__law_at : FnOk P w K mg base CX0 1 t.a__law_at t.fd__law_at ["_law_script", "_law_k"] sp_at)
    (G__law_posts_by : FnOk P w K mg base CX0 1 t.a__law_posts_by t.fd__law_posts_by ["_law_width", "_law_cells"] sp_posts_by) (G__law_lines_of : FnOk P w K mg base CX0 1 t.a__law_lines_of t.fd__law_lines_of ["_law_width", "_law_rows"] sp_lines_of)
    (G__law_net_is : FnOk P w K mg base CX0 3 t.a__law_net_is t.fd__law_net_is ["_law_found", "_law_width", "_law_posts"] sp_net_is) (G__law_refused_so : FnOk P w K mg base CX0 4 t.a__law_refused_so t.fd__law_refused_so ["_law_lines"] sp_refused_so) (G_read : FnOk P w K mg base (CXw P w) 3 t.a_read t.fd_read ["lines"] (sp_readW t))
    (e5 e9 : List Expr) (h_94 : strsOf e5 = some T5) (h_100 : strsOf e9 = some T9) (cdv : Value) (A : Around) (outer : List Env) (s : Shared) (H : Hp) (E : XK) (hr__law_at : Room 1 (A.deeper (PyProof.Rows.envOfC "law" (defScope s_law) s.heap.objs.size t.a_law cdv))) (hr__law_posts_by : Room 1 (A.deeper (PyProof.Rows.envOfC "law" (defScope s_law) s.heap.objs.size t.a_law cdv))) (hr__law_lines_of : Room 1 (A.deeper (PyProof.Rows.envOfC "law" (defScope s_law) s.heap.objs.size t.a_law cdv))) (hr__law_net_is : Room 3 (A.deeper (PyProof.Rows.envOfC "law" (defScope s_law) s.heap.objs.size t.a_law cdv))) (hr__law_refused_so : Room 4 (A.deeper (PyProof.Rows.envOfC "law" (defScope s_law) s.heap.objs.size t.a_law cdv))) (hr_read : Room 3 (A.deeper (PyProof.Rows.envOfC "law" (defScope s_law) s.heap.objs.size t.a_law cdv))) :
    { tt : TS // PSs (cxOf CX0 P w K mg base ["_law_script", "_law_width", "_law_posts", "_law_lines", "_law_way", "_law_texts", "_law_good", "_law_found", "_law_refused"] "law" (defScope s_law) t.a_law cdv A outer s H E).nox ((bodyV e5 e9).drop 10) tt } := ⟨_, (pss_cons (ps_if (PW.pt (pw_and (pt_cmpR op_eq (pv 4) pe_int (nomark _)) (pw_and1 (pt_cmpR op_eq (pe_op op_mod (pe_call G__law_at hr__law_at rfl T.m__law_at T.F__law_at.kp T.b__law_at .nil pass0 (pa_cons (pv 0) (pa_const pe_int pa_nil))) pe_int) pe_int (nomark _))))) (pss_cons (ps_set (i := 3) sc_law.nd rfl (Or.inl rfl) (pe_lst pa_nil))
        (pss_one (ps_set (i := 6) sc_law.nd rfl (Or.inl rfl) pe_bl)))
        pss_nil)
      (pss_cons (ps_set (i := 7) sc_law.nd rfl (Or.inl rfl) pe_non)
      (pss_cons (ps_set (i := 8) sc_law.nd rfl (Or.inl rfl) pe_bl)
      (lawT4 T G__law_at G__law_posts_by G__law_lines_of G__law_net_is G__law_refused_so G_read e5 e9 h_94 h_100 cdv A outer s H E hr__law_at hr__law_posts_by hr__law_lines_of hr__law_net_is hr__law_refused_so hr_read).2)))⟩
noncomputable def lawT2 {P : Program} {w : World} {K : PySem.W.Frag} {mg : Str → Option Value} {base : Heap} {t : Adr} (T : Txt K mg t) (G__law_at : FnOk P w K mg base CX0 1 t.a__law_at t.fd__law_at ["_law_script", "_law_k"] sp_at)
    (G__law_posts_by : FnOk P w K mg base CX0 1 t.a__law_posts_by t.fd__law_posts_by ["_law_width", "_law_cells"] sp_posts_by) (G__law_lines_of : FnOk P w K mg base CX0 1 t.a__law_lines_of t.fd__law_lines_of ["_law_width", "_law_rows"] sp_lines_of)
    (G__law_net_is : FnOk P w K mg base CX0 3 t.a__law_net_is t.fd__law_net_is ["_law_found", "_law_width", "_law_posts"] sp_net_is) (G__law_refused_so : FnOk P w K mg base CX0 4 t.a__law_refused_so t.fd__law_refused_so ["_law_lines"] sp_refused_so) (G_read : FnOk P w K mg base (CXw P w) 3 t.a_read t.fd_read ["lines"] (sp_readW t))
    (e5 e9 : List Expr) (h_94 : strsOf e5 = some T5) (h_100 : strsOf e9 = some T9) (cdv : Value) (A : Around) (outer : List Env) (s : Shared) (H : Hp) (E : XK) (hr__law_at : Room 1 (A.deeper (PyProof.Rows.envOfC "law" (defScope s_law) s.heap.objs.size t.a_law cdv))) (hr__law_posts_by : Room 1 (A.deeper (PyProof.Rows.envOfC "law" (defScope s_law) s.heap.objs.size t.a_law cdv))) (hr__law_lines_of : Room 1 (A.deeper (PyProof.Rows.envOfC "law" (defScope s_law) s.heap.objs.size t.a_law cdv))) (hr__law_net_is : Room 3 (A.deeper (PyProof.Rows.envOfC "law" (defScope s_law) s.heap.objs.size t.a_law cdv))) (hr__law_refused_so : Room 4 (A.deeper (PyProof.Rows.envOfC "law" (defScope s_law) s.heap.objs.size t.a_law cdv))) (hr_read : Room 3 (A.deeper (PyProof.Rows.envOfC "law" (defScope s_law) s.heap.objs.size t.a_law cdv))) :
    { tt : TS // PSs (cxOf CX0 P w K mg base ["_law_script", "_law_width", "_law_posts", "_law_lines", "_law_way", "_law_texts", "_law_good", "_law_found", "_law_refused"] "law" (defScope s_law) t.a_law cdv A outer s H E).nox ((bodyV e5 e9).drop 8) tt } := ⟨_, (pss_cons (ps_if (pt_cmpR op_lt (pv 4) pe_int (nomark _)) (pss_one (ps_expr (pe_bm PySem.F.plainAttrs_list PySem.F.slot_list_insert PySem.F.type_list_insert mt_insert (pv 3) (pa_cons (pe_op op_add pe_int (pe_op op_mod (pe_call G__law_at hr__law_at rfl T.m__law_at T.F__law_at.kp T.b__law_at .nil pass0 (pa_cons (pv 0) (pa_const pe_int pa_nil))) (pe_callB call_len_seq (by rfl) T.z_len PySem.boot_len (pa_cons (pv 3) pa_nil)))) (pa_cons (pe_ix ix_list (pv 5) (pv 4) (fun _ _ => rfl)) pa_nil)))))
        pss_nil)
      (pss_cons (ps_if (PW.pt (pw_and (pt_cmpR op_eq (pv 4) pe_int (nomark _)) (pw_and1 (pt_cmpR op_eq (pe_op op_mod (pe_call G__law_at hr__law_at rfl T.m__law_at T.F__law_at.kp T.b__law_at .nil pass0 (pa_cons (pv 0) (pa_const pe_int pa_nil))) pe_int) pe_int (nomark _))))) (pss_cons (ps_set (i := 3) sc_law.nd rfl (Or.inl rfl) (pe_op op_cat (pe_lst (pa_cons (pe_ix ix_list (pe_lstS ["0", "-1", "", "01", "x", "2 3", "1000000000000"] h_100) (pe_op op_mod (pe_call G__law_at hr__law_at rfl T.m__law_at T.F__law_at.kp T.b__law_at .nil pass0 (pa_cons (pv 0) (pa_const pe_int pa_nil))) pe_int) (fun _ _ => rfl)) pa_nil)) (pe_slice sl_list (pv 3) (po_some pe_int) po_none)))
        (pss_cons (ps_set (i := 6) sc_law.nd rfl (Or.inl rfl) (pe_cmpR op_eq (pe_ix ix_list (pv 3) pe_int (fun _ _ => rfl)) pe_str (nomark _)))
        (pss_one (ps_set (i := 1) sc_law.nd rfl (Or.inl rfl) pe_int))))
        pss_nil)
      (lawT3 T G__law_at G__law_posts_by G__law_lines_of G__law_net_is G__law_refused_so G_read e5 e9 h_94 h_100 cdv A outer s H E hr__law_at hr__law_posts_by hr__law_lines_of hr__law_net_is hr__law_refused_so hr_read).2))⟩
noncomputable def lawT1 {P : Program} {w : World} {K : PySem.W.Frag} {mg : Str → Option Value} {base : Heap} {t : Adr} (T : Txt K mg t) (G__law_at : FnOk P w K mg base CX0 1 t.a__law_at t.fd__law_at ["_law_script", "_law_k"] sp_at)
    (G__law_posts_by : FnOk P w K mg base CX0 1 t.a__law_posts_by t.fd__law_posts_by ["_law_width", "_law_cells"] sp_posts_by) (G__law_lines_of : FnOk P w K mg base CX0 1 t.a__law_lines_of t.fd__law_lines_of ["_law_width", "_law_rows"] sp_lines_of)
    (G__law_net_is : FnOk P w K mg base CX0 3 t.a__law_net_is t.fd__law_net_is ["_law_found", "_law_width", "_law_posts"] sp_net_is) (G__law_refused_so : FnOk P w K mg base CX0 4 t.a__law_refused_so t.fd__law_refused_so ["_law_lines"] sp_refused_so) (G_read : FnOk P w K mg base (CXw P w) 3 t.a_read t.fd_read ["lines"] (sp_readW t))
    (e5 e9 : List Expr) (h_94 : strsOf e5 = some T5) (h_100 : strsOf e9 = some T9) (cdv : Value) (A : Around) (outer : List Env) (s : Shared) (H : Hp) (E : XK) (hr__law_at : Room 1 (A.deeper (PyProof.Rows.envOfC "law" (defScope s_law) s.heap.objs.size t.a_law cdv))) (hr__law_posts_by : Room 1 (A.deeper (PyProof.Rows.envOfC "law" (defScope s_law) s.heap.objs.size t.a_law cdv))) (hr__law_lines_of : Room 1 (A.deeper (PyProof.Rows.envOfC "law" (defScope s_law) s.heap.objs.size t.a_law cdv))) (hr__law_net_is : Room 3 (A.deeper (PyProof.Rows.envOfC "law" (defScope s_law) s.heap.objs.size t.a_law cdv))) (hr__law_refused_so : Room 4 (A.deeper (PyProof.Rows.envOfC "law" (defScope s_law) s.heap.objs.size t.a_law cdv))) (hr_read : Room 3 (A.deeper (PyProof.Rows.envOfC "law" (defScope s_law) s.heap.objs.size t.a_law cdv))) :
    { tt : TS // PSs (cxOf CX0 P w K mg base ["_law_script", "_law_width", "_law_posts", "_law_lines", "_law_way", "_law_texts", "_law_good", "_law_found", "_law_refused"] "law" (defScope s_law) t.a_law cdv A outer s H E).nox ((bodyV e5 e9).drop 5) tt } := ⟨_, (pss_cons (ps_set (i := 5) sc_law.nd rfl (Or.inl rfl) (pe_lstS ["0:1 ", " 0:1", "0:1  0:1", "0-1", "1", "0:1:1", "00:1", "+0:1", "", "0:", ":1", "a:1"] h_94))
      (pss_cons (ps_set (i := 5) sc_law.nd rfl (Or.inl rfl) (pe_op op_cat (pv 5) (pe_lst (pa_const pe_str (pa_const pe_str (pa_const pe_str (pa_cons (pe_op op_add_str pe_str (pe_callTy call_str_int (by rfl) T.z_str PyProof.Rows.boot_str (pa_cons (pv 1) pa_nil))) (pa_const pe_str (pa_const pe_str pa_nil)))))))))
      (pss_cons (ps_set (i := 6) sc_law.nd rfl (Or.inl rfl) (pe_cmpR op_gt (pv 4) pe_int (nomark _)))
      (lawT2 T G__law_at G__law_posts_by G__law_lines_of G__law_net_is G__law_refused_so G_read e5 e9 h_94 h_100 cdv A outer s H E hr__law_at hr__law_posts_by hr__law_lines_of hr__law_net_is hr__law_refused_so hr_read).2)))⟩
noncomputable def lawT {P : Program} {w : World} {K : PySem.W.Frag} {mg : Str → Option Value} {base : Heap} {t : Adr} (T : Txt K mg t) (G__law_at : FnOk P w K mg base CX0 1 t.a__law_at t.fd__law_at ["_law_script", "_law_k"] sp_at)
    (G__law_posts_by : FnOk P w K mg base CX0 1 t.a__law_posts_by t.fd__law_posts_by ["_law_width", "_law_cells"] sp_posts_by) (G__law_lines_of : FnOk P w K mg base CX0 1 t.a__law_lines_of t.fd__law_lines_of ["_law_width", "_law_rows"] sp_lines_of)
    (G__law_net_is : FnOk P w K mg base CX0 3 t.a__law_net_is t.fd__law_net_is ["_law_found", "_law_width", "_law_posts"] sp_net_is) (G__law_refused_so : FnOk P w K mg base CX0 4 t.a__law_refused_so t.fd__law_refused_so ["_law_lines"] sp_refused_so) (G_read : FnOk P w K mg base (CXw P w) 3 t.a_read t.fd_read ["lines"] (sp_readW t))
    (e5 e9 : List Expr) (h_94 : strsOf e5 = some T5) (h_100 : strsOf e9 = some T9) (cdv : Value) (A : Around) (outer : List Env) (s : Shared) (H : Hp) (E : XK) (hr__law_at : Room 1 (A.deeper (PyProof.Rows.envOfC "law" (defScope s_law) s.heap.objs.size t.a_law cdv))) (hr__law_posts_by : Room 1 (A.deeper (PyProof.Rows.envOfC "law" (defScope s_law) s.heap.objs.size t.a_law cdv))) (hr__law_lines_of : Room 1 (A.deeper (PyProof.Rows.envOfC "law" (defScope s_law) s.heap.objs.size t.a_law cdv))) (hr__law_net_is : Room 3 (A.deeper (PyProof.Rows.envOfC "law" (defScope s_law) s.heap.objs.size t.a_law cdv))) (hr__law_refused_so : Room 4 (A.deeper (PyProof.Rows.envOfC "law" (defScope s_law) s.heap.objs.size t.a_law cdv))) (hr_read : Room 3 (A.deeper (PyProof.Rows.envOfC "law" (defScope s_law) s.heap.objs.size t.a_law cdv))) :
    { tt : TS // PSs (cxOf CX0 P w K mg base ["_law_script", "_law_width", "_law_posts", "_law_lines", "_law_way", "_law_texts", "_law_good", "_law_found", "_law_refused"] "law" (defScope s_law) t.a_law cdv A outer s H E).nox (bodyV e5 e9) tt } := ⟨_, (pss_cons (ps_set (i := 0) sc_law.nd rfl (Or.inl rfl) (pe_slice sl_list (pv 0) po_none (po_some pe_int)))
      (pss_cons (ps_set (i := 1) sc_law.nd rfl (Or.inl rfl) (pe_op op_add pe_int (pe_op op_mod (pe_call G__law_at hr__law_at rfl T.m__law_at T.F__law_at.kp T.b__law_at .nil pass0 (pa_cons (pv 0) (pa_const pe_int pa_nil))) pe_int)))
      (pss_cons (ps_set (i := 2) sc_law.nd rfl (Or.inl rfl) (pe_call G__law_posts_by hr__law_posts_by rfl T.m__law_posts_by T.F__law_posts_by.kp T.b__law_posts_by .nil pass0 (pa_cons (pv 1) (pa_cons (pe_slice sl_list (pv 0) (po_some pe_int) (po_some pe_int)) pa_nil))))
      (pss_cons (ps_set (i := 3) sc_law.nd rfl (Or.inl rfl) (pe_call G__law_lines_of hr__law_lines_of rfl T.m__law_lines_of T.F__law_lines_of.kp T.b__law_lines_of .nil pass0 (pa_cons (pv 1) (pa_cons (pe_lc rfl rfl (pi_list (pv 2)) (by rfl) (LcFree.nil (N := ["_law_post"]) [(".0", .local), ("_law_post", .local)] rfl rfl (by decide +kernel)) rfl (by decide +kernel) (by decide +kernel) (fun _ _ _ _ => (pg_name (i := 0) (show (["_law_post"] : List Str).Nodup by decide +kernel) rfl (Or.inl rfl))) (fun _ _ _ _ => (pe_lst (pa_cons (pv 0) pa_nil)))) pa_nil))))
      (pss_cons (ps_set (i := 4) sc_law.nd rfl (Or.inl rfl) (pe_op op_mod (pe_call G__law_at hr__law_at rfl T.m__law_at T.F__law_at.kp T.b__law_at .nil pass0 (pa_cons (pv 0) (pa_const pe_int pa_nil))) pe_int))
      (lawT1 T G__law_at G__law_posts_by G__law_lines_of G__law_net_is G__law_refused_so G_read e5 e9 h_94 h_100 cdv A outer s H E hr__law_at hr__law_posts_by hr__law_lines_of hr__law_net_is hr__law_refused_so hr_read).2)))))⟩
end PN
namespace PN
open PySem L2
section
variable {P : Program} {w : World} {K : PySem.W.Frag} {mg : Str → Option Value} {base : Heap} {t : Adr}
theorem Posts.keepLx {H : Hp} {q b : Addr} {L : List Post} {o o' : List V} (h : Posts H q L) (e : H b = some (.lst o)) (ne : q ≠ b) : Posts (upd H b (.lst o')) q L := by
  obtain ⟨rs, er, t⟩ := h
  exact ⟨rs, by rw [upd_ne ne]; exact er, t.keep (tup_keep e)⟩
theorem ok_law (T : Txt K mg t) : FnOk P w K mg base CX0 8 t.a_law t.fd_law ["_law_script"] (spLaw K) := by
  have G__law_at : FnOk P w K mg base CX0 1 t.a__law_at t.fd__law_at ["_law_script", "_law_k"] sp_at := ok__law_at T
  have G__law_posts_by : FnOk P w K mg base CX0 1 t.a__law_posts_by t.fd__law_posts_by ["_law_width", "_law_cells"] sp_posts_by := ok__law_posts_by T
  have G__law_lines_of : FnOk P w K mg base CX0 1 t.a__law_lines_of t.fd__law_lines_of ["_law_width", "_law_rows"] sp_lines_of := ok__law_lines_of T
  have G__law_net_is : FnOk P w K mg base CX0 3 t.a__law_net_is t.fd__law_net_is ["_law_found", "_law_width", "_law_posts"] sp_net_is := ok__law_net_is T
  have G__law_refused_so := ok__law_refused_so (P := P) (w := w) (base := base) T
  have G_read := tw_read (P := P) (w := w) (base := base) T
  refine T.F_law.ok sc_law (fun vs H Q E h => ?_) (fun cdv A outer s H vs Q E hr h => ?_)
  · obtain ⟨a, ns, rfl, _⟩ := h
    rfl
  · obtain ⟨a, ns, rfl, hS, hlen, k⟩ := h
    have hr__law_at := hr.mono (j := 1) (by decide)
    have hr__law_posts_by := hr.mono (j := 1) (by decide)
    have hr__law_lines_of := hr.mono (j := 1) (by decide)
    have hr__law_net_is := hr.mono (j := 3) (by decide)
    have hr__law_refused_so := hr.mono (j := 4) (by decide)
    have hr_read := hr.mono (j := 3) (by decide)
    refine ⟨_, (lawT T G__law_at G__law_posts_by G__law_lines_of G__law_net_is G__law_refused_so G_read (get5 ((defBody s_law).getD 5 (.Pass ⟨0, 0, 0, 0⟩))) (get9 ((defBody s_law).getD 9 (.Pass ⟨0, 0, 0, 0⟩))) rfl rfl cdv A outer s H E hr__law_at hr__law_posts_by hr__law_lines_of hr__law_net_is hr__law_refused_so hr_read).2, ?_⟩
    unfold lawT
    dsimp only
    refine ⟨_, rfl, _, rfl, a, _, rfl, hS, fun a1 hn1 => ?_⟩
    have c1 : Ints (upd H a1 (.lst (cutV (ns.map V.int) none (some 500)))) a1 (cutI ns none (some 500)) := cut_at
    have l1 := cutI_length ns none (some 500)
    generalize cutI ns none (some 500) = ns1 at c1 l1
    generalize upd H a1 (.lst (cutV (ns.map V.int) none (some 500))) = H1 at c1 ⊢
    refine ⟨_, rfl, a1, 0, ns1, rfl, c1, by omega, _, _, rfl, rfl, (by show (0 : Int) < 12; decide), _, _, rfl, rfl, ?_⟩
    obtain ⟨wd, ewd, hw1, hw2⟩ : ∃ wd : Nat, 1 + ns1.getD 0 0 % 12 = ((wd : Nat) : Int) ∧ 1 ≤ wd ∧ wd ≤ 12 := ⟨(1 + ns1.getD 0 0 % 12).toNat, by omega, by omega, by omega⟩
    dsimp only [gName]
    rw [ewd]
    have l2 := cut20 ns1
    refine ⟨_, rfl, _, rfl, _, rfl, _, rfl, a1, _, rfl, SqL.of c1, fun a2 hn2 => ⟨((wd : Nat) : Int), a2, cutI ns1 (some 4) (some 24), rfl, cut_at, by omega, by omega, by omega, fun pa ps H3 s3 n3 hP hN hpl => ?_⟩⟩
    rw [Int.toNat_natCast] at hN
    have c3 := s3 _ _ (Same.new hn2 _ _ c1)
    dsimp only [gName]
    obtain ⟨rs, ha, ht⟩ := id hP
    have hrl := ht.1
    refine ⟨_, rfl, _, rfl, pa, rfl, ⟨_, SqL.of ha⟩, fun D hD => lc_list (K := K) (a := pa) (xs := rs.map V.ref) (fun i σ H4 => ∃ (u : Option V) (qs : List Addr), σ = [u] ∧ Same H3 H4 ∧ H4 D = some (.lst (qs.map V.ref)) ∧ LayPosts H4 qs ((ps.take i).map fun p => [p]) ∧ ∀ q ∈ qs, q ≠ D)
      ⟨none, [], rfl, Same.new hD, upd_same, ⟨rfl, fun k q L a b => by simp at a⟩, fun q hq => by cases hq⟩ (fun i σ H4 _ ⟨_, _, _, s4, _⟩ => SqL.of (s4 _ _ ha)) ?_ ?_⟩
    · rintro i x σ H4 hi ⟨u, qs, rfl, s4, e4, hL4, hqD⟩
      have hil := (List.getElem?_eq_some_iff.mp hi).1
      obtain ⟨r, hr', rfl⟩ := map_get hi
      obtain ⟨p, hp, er⟩ := ht.get hr'
      have hql := hL4.1
      rw [List.length_map, List.length_take] at hql
      refine ⟨_, rfl, (by show 1 ≤ sizeLine; decide), fun l hl => ?_⟩
      have S := Same.new (o := .lst [V.ref r]) hl
      have e5 := S _ _ e4
      have nlD : l ≠ D := fun z => by
        rw [z, e4] at hl
        cases hl
      have hL5 := (hL4.mono S).snoc (q := l) (L := [p]) ⟨[r], upd_same, ⟨rfl, fun k r' p' a b => by
        cases k with
        | zero => cases a; cases b; exact S _ _ (s4 _ _ er)
        | succ k => simp at a⟩⟩
      have hq5 : ∀ q ∈ qs ++ [l], q ≠ D := fun q hq => (List.mem_append.mp hq).elim (hqD q) fun z => by
        rw [List.mem_singleton] at z
        rw [z]
        exact nlD
      refine LcEnd.mk e5 (big' (by rw [List.length_map]; omega)) hil ⟨_, qs ++ [l], rfl, (s4.trans S).upd hD, ?_, ?_, hq5⟩
      · rw [upd_same, List.map_append]
        rfl
      · rw [take_snoc hp, List.map_append]
        exact hL5.away e5 hq5
    · rintro σ H4 ⟨u, qs, rfl, s4, e4, hL4, -⟩
      rw [List.length_map, hrl, List.take_length] at hL4
      refine ⟨wd, D, qs, ps.map fun p => [p], rfl, e4, hL4, by omega, by rw [List.length_map]; omega, fun L hL => ?_, fun la H5 s5 n5 el => ?_⟩
      · obtain ⟨p, hp, rfl⟩ := List.mem_map.mp hL
        have z := hN p hp
        refine ⟨by show 1 ≤ 100; decide, fun q hq => ?_⟩
        rw [List.mem_singleton] at hq
        subst hq
        omega
      have el : H5 la = some (.lst ((figS wd :: ps.map fun p => lineS [p]).map V.str) ) := by
        rw [el, List.map_map]
        rfl
      have c5 := s5 _ _ (s4 _ _ c3)
      have hP5 := (hP.mono s4).mono s5
      dsimp only [gName]
      -- the way, the texts
      refine ⟨_, rfl, a1, 1, ns1, rfl, c5, by omega, _, _, rfl, rfl, (by show (0 : Int) < 20; decide), ?_⟩
      obtain ⟨way, eway, hy0, hy20⟩ : ∃ way : Int, ns1.getD 1 0 % 20 = way ∧ 0 ≤ way ∧ way < 20 := ⟨_, rfl, by omega, by omega⟩
      dsimp only [gName]
      rw [eway]
      refine ⟨(by show 12 ≤ sizeLine; decide), fun t1 ht1 => ?_⟩
      have S6 := Same.new (o := .lst ((["0:1 ", " 0:1", "0:1  0:1", "0-1", "1", "0:1:1", "00:1", "+0:1", "", "0:", ":1", "a:1"] : List Str).map V.str)) ht1
      have lg : ((wd : Nat) : Int).natAbs.log2 < 1920 := by
        have z : wd.log2 ≤ wd := Nat.log2_le_self wd
        rw [Int.natAbs_natCast]
        omega
      have f0 : ("0:" : Str).length = 2 := by decide +kernel
      have f1 := (asc_fig hw2).2
      refine ⟨_, rfl, _, rfl, _, rfl, lg, _, _, rfl, rfl, by rw [figS_str]; exact size_small (by omega), (by show 6 ≤ sizeLine; decide), fun t2 ht2 => ?_⟩
      have S7 := Same.new (o := .lst [V.str "1:0", V.str "0:0", V.str "-1:0", V.str ("0:" ++ Str.ofString (toString ((wd : Nat) : Int))), V.str "0:1000000000000", V.str "0:01"]) ht2
      refine ⟨t1, t2, _, _, rfl, rfl, S7 _ _ upd_same, upd_same, (by show 12 + 6 ≤ sizeLine; decide), fun t3 ht3 => ?_⟩
      have S8 := S6.trans (S7.trans (Same.new (o := .lst ((["0:1 ", " 0:1", "0:1  0:1", "0-1", "1", "0:1:1", "00:1", "+0:1", "", "0:", ":1", "a:1"] : List Str).map V.str ++ [V.str "1:0", V.str "0:0", V.str "-1:0", V.str ("0:" ++ Str.ofString (toString ((wd : Nat) : Int))), V.str "0:1000000000000", V.str "0:01"])) ht3))
      have e8 := upd_same (H := upd (upd H5 t1 (.lst ((["0:1 ", " 0:1", "0:1  0:1", "0-1", "1", "0:1:1", "00:1", "+0:1", "", "0:", ":1", "a:1"] : List Str).map V.str))) t2 (.lst [V.str "1:0", V.str "0:0", V.str "-1:0", V.str ("0:" ++ Str.ofString (toString ((wd : Nat) : Int))), V.str "0:1000000000000", V.str "0:01"]))
        (a := t3) (o := .lst ((["0:1 ", " 0:1", "0:1  0:1", "0-1", "1", "0:1:1", "00:1", "+0:1", "", "0:", ":1", "a:1"] : List Str).map V.str ++ [V.str "1:0", V.str "0:0", V.str "-1:0", V.str ("0:" ++ Str.ofString (toString ((wd : Nat) : Int))), V.str "0:1000000000000", V.str "0:01"]))
      have eTX : ((["0:1 ", " 0:1", "0:1  0:1", "0-1", "1", "0:1:1", "00:1", "+0:1", "", "0:", ":1", "a:1"] : List Str).map V.str ++ [V.str "1:0", V.str "0:0", V.str "-1:0", V.str ("0:" ++ Str.ofString (toString ((wd : Nat) : Int))), V.str "0:1000000000000", V.str "0:01"]) = (TX wd).map V.str := by
        rw [figS_str]
        rfl
      generalize upd (upd (upd H5 t1 (.lst ((["0:1 ", " 0:1", "0:1  0:1", "0-1", "1", "0:1:1", "00:1", "+0:1", "", "0:", ":1", "a:1"] : List Str).map V.str))) t2 (.lst [V.str "1:0", V.str "0:0", V.str "-1:0", V.str ("0:" ++ Str.ofString (toString ((wd : Nat) : Int))), V.str "0:1000000000000", V.str "0:01"])) t3 (.lst ((["0:1 ", " 0:1", "0:1  0:1", "0-1", "1", "0:1:1", "00:1", "+0:1", "", "0:", ":1", "a:1"] : List Str).map V.str ++ [V.str "1:0", V.str "0:0", V.str "-1:0", V.str ("0:" ++ Str.ofString (toString ((wd : Nat) : Int))), V.str "0:1000000000000", V.str "0:01"])) = H8 at S8 e8 ⊢
      rw [eTX] at e8
      clear S6 S7 ht1 ht2 ht3 eTX
      refine ⟨_, rfl, _, _, rfl, rfl, ?_⟩
      unfold lawT2
      dsimp only
      have c8 := S8 _ _ c5
      have hP8 := hP5.mono S8
      have el8 := S8 _ _ el
      have nla : a1 ≠ la := fun z => by
        rw [← z] at n5
        rw [s4 _ _ c3] at n5
        cases n5
      have npa : pa ≠ la := fun z => by
        rw [← z] at n5
        rw [s4 _ _ ha] at n5
        cases n5
      -- a line more
      refine seq_by (fun σ' Hx => ∃ ls : List Str, σ' = [some (.ref a1), some (.int (wd : Nat)), some (.ref pa), some (.ref la), some (.int way), some (.ref t3), some (.bl (decide (17 < way))), none, none] ∧ Ints Hx a1 ns1 ∧ Posts Hx pa ps ∧ Hx la = some (.lst (ls.map V.str)) ∧ ls.length ≤ 30 ∧ (∀ x ∈ ls, Asc x) ∧
          ((way < 18 ∧ readOf ls = none) ∨ (¬ way < 18 ∧ ls = figS wd :: ps.map fun p => lineS [p]))) (fun N hNx => ?_) (fun σ' H9 ⟨ls, hσ, c9, hP9, el9, hll, hlA, hlr⟩ => ?_)
      · refine ⟨_, rfl, _, _, rfl, rfl, _, rfl, ?_⟩
        have hA0 : ∀ x ∈ (figS wd :: ps.map fun p => lineS [p]), Asc x := fun x hx => by
          rcases List.mem_cons.mp hx with z | z
          · rw [z]
            exact asc_fig hw2
          · obtain ⟨p, hp, rfl⟩ := List.mem_map.mp z
            have := hN p hp
            exact asc_post (by omega) (by omega)
        by_cases c : way < 18
        · obtain ⟨v, hv, ev⟩ := pick2 (xs := (TX wd).map V.str) (i := way) hy0 c
          obtain ⟨x, hx, rfl⟩ := List.mem_map.mp hv
          obtain ⟨hxA, hxb⟩ := bad_text hw1 hw2 x hx
          have hlen0 : (((figS wd :: ps.map fun p => lineS [p]).map V.str).length : Int) = ((ps.length + 1 : Nat) : Int) := by
            rw [List.length_map, List.length_cons, List.length_map]
          refine iteD c ⟨_, rfl, .inl ⟨rfl, _, SqL.of el8⟩, _, rfl, a1, 2, ns1, rfl, c8, by omega, _, rfl, la, _, rfl, .inl (SqL.of el8), _, _, rfl, rfl, by omega, _, _, rfl, rfl, _, rfl, _, rfl, t3, _, _, _, rfl, rfl, SqL.of e8, ev, la, _, _, _, rfl, rfl, el8, ?_⟩
          rw [hlen0]
          obtain ⟨j, hj, hjl⟩ : ∃ j : Nat, ns1.getD 2 0 % ((ps.length + 1 : Nat) : Int) = ((j : Nat) : Int) ∧ j ≤ ps.length := by
            have z1 := Int.emod_nonneg (ns1.getD 2 0) (show (((ps.length + 1 : Nat)) : Int) ≠ 0 by omega)
            have z2 := Int.emod_lt_of_pos (ns1.getD 2 0) (show (0 : Int) < ((ps.length + 1 : Nat) : Int) by omega)
            exact ⟨(ns1.getD 2 0 % ((ps.length + 1 : Nat) : Int)).toNat, by omega, by omega⟩
          rw [hj, show (1 + ((j : Nat) : Int)).toNat = j + 1 by omega]
          refine ⟨by omega, by omega, by rw [List.length_map, List.length_cons, List.length_map]; omega, ?_⟩
          refine hNx _ _ ⟨figS wd :: ((ps.map fun p => lineS [p]).take j ++ x :: (ps.map fun p => lineS [p]).drop j), rfl, (upd_ne nla).trans c8, PN.Posts.keepLx hP8 el8 npa, ?_, ?_, fun y hy => ?_, .inl ⟨c, read_bad hxb⟩⟩
          · rw [upd_same, List.map_cons, List.map_cons, List.map_append, List.map_cons, List.map_take, List.map_drop]
            rfl
          · rw [List.length_cons, List.length_append, List.length_cons, List.length_take, List.length_drop, List.length_map]
            omega
          · rcases List.mem_cons.mp hy with z | z
            · exact hA0 y (z ▸ List.mem_cons_self)
            · rcases List.mem_append.mp z with z | z
              · exact hA0 y (List.mem_cons_of_mem _ (List.mem_of_mem_take z))
              · rcases List.mem_cons.mp z with z | z
                · rw [z]
                  exact hxA
                · exact hA0 y (List.mem_cons_of_mem _ (List.mem_of_mem_drop z))
        · refine iteDn c (hNx _ _ ⟨_, rfl, c8, hP8, el8, ?_, hA0, .inr ⟨c, rfl⟩⟩)
          rw [List.length_cons, List.length_map]
          omega
      subst hσ
      -- another first line
      refine seq_by (fun σ' Hx => ∃ (lb : Addr) (ms : List Str) (wb : Nat) (good : Bool), σ' = [some (.ref a1), some (.int (wb : Nat)), some (.ref pa), some (.ref lb), some (.int way), some (.ref t3), some (.bl good), none, none] ∧ Ints Hx a1 ns1 ∧ Posts Hx pa ps ∧ Hx lb = some (.lst (ms.map V.str)) ∧ ms.length ≤ 40 ∧ (∀ x ∈ ms, Asc x) ∧
          (good = true → readOf ms = some (wb, ps)) ∧ (good = false → readOf ms = none)) (fun N hNx => ?_) (fun σ' H10 ⟨lb, ms, wb, good, hσ, c10, hP10, el10, hml, hmA, hg1, hg2⟩ => ?_)
      · have stay : N [some (.ref a1), some (.int (wd : Nat)), some (.ref pa), some (.ref la), some (.int way), some (.ref t3), some (.bl (decide (17 < way))), none, none] H9 := hNx _ _ ⟨la, ls, wd, _, rfl, c9, hP9, el9, by omega, hlA, fun z => by
            have z' := of_decide_eq_true z
            rcases hlr with ⟨h1, _⟩ | ⟨_, h2⟩
            · omega
            · rw [h2]
              exact read_good (numS_fig wd) hw1 hN, fun z => by
            have z' := of_decide_eq_false z
            rcases hlr with ⟨_, h2⟩ | ⟨h1, _⟩
            · exact h2
            · omega⟩
        refine ⟨_, rfl, rfl, _, rfl, ?_⟩
        by_cases c : way = 18
        · have els : ls = figS wd :: ps.map fun p => lineS [p] := by
            rcases hlr with ⟨h1, _⟩ | ⟨_, h2⟩
            · omega
            · exact h2
          refine iteD (congrArg V.int c) ⟨_, rfl, a1, 2, ns1, rfl, c9, by omega, _, _, rfl, rfl, (by show (0 : Int) < 3; decide), rfl, _, rfl, ?_⟩
          by_cases c2 : ns1.getD 2 0 % 3 = 1
          · refine iteD (congrArg V.int c2) ⟨(by show 7 ≤ sizeLine; decide), fun f1 hf1 => ?_⟩
            have S1 := Same.new (o := .lst (FX.map V.str)) hf1
            obtain ⟨v, hv, ev⟩ := pick2 (xs := FX.map V.str) (i := ns1.getD 3 0 % 7) (by omega) (by show ns1.getD 3 0 % 7 < 7; omega)
            obtain ⟨x, hx, rfl⟩ := List.mem_map.mp hv
            obtain ⟨hxA, hxb⟩ := first_text x hx
            refine ⟨_, rfl, a1, 3, ns1, rfl, S1 _ _ c9, by omega, _, _, rfl, rfl, (by show (0 : Int) < 7; decide), f1, _, _, _, rfl, rfl, SqL.of upd_same, ev, (by show 1 ≤ sizeLine; decide), fun f2 hf2 => ?_⟩
            have S2 := S1.trans (Same.new (o := .lst [V.str x]) hf2)
            refine ⟨_, rfl, _, rfl, la, _, rfl, SqL.of (S2 _ _ el9), fun sl hsl => ?_⟩
            have ecut : cutV (ls.map V.str) (some 1) none = (ps.map fun p => lineS [p]).map V.str := by
              rw [els]
              unfold cutV
              rw [HT.sIx_none, List.length_map, List.length_cons]
              have e1 : HT.sIx ((ps.map fun p => lineS [p]).length + 1) 0 (some 1) = 1 := by
                rw [show (1 : Int) = ((1 : Nat) : Int) from rfl, HT.sIx_nat]
                omega
              rw [e1]
              show ((ps.map fun p => lineS [p]).map V.str).take ((ps.map fun p => lineS [p]).length + 1 - 1) = _
              rw [Nat.add_sub_cancel]
              exact List.take_of_length_le (by rw [List.length_map]; exact Nat.le_refl _)
            rw [ecut]
            have S3 := S2.trans (Same.new (o := .lst ((ps.map fun p => lineS [p]).map V.str)) hsl)
            refine ⟨f2, sl, _, _, rfl, rfl, Same.new hsl _ _ upd_same, upd_same, big (by rw [List.length_map, List.length_map]; show 1 + ps.length ≤ 100000; omega), fun lb hlb => ?_⟩
            have S4 := S3.trans (Same.new (o := .lst ([V.str x] ++ (ps.map fun p => lineS [p]).map V.str)) hlb)
            refine ⟨_, rfl, lb, _, _, _, rfl, rfl, SqL.of upd_same, atI_nat (j := 0) rfl, rfl, ?_⟩
            refine hNx _ _ ⟨lb, x :: ps.map fun p => lineS [p], 1000000000000, decide (V.str x = V.str bigL), rfl, S4 _ _ c9, hP9.mono S4, upd_same, by rw [List.length_cons, List.length_map]; omega, fun y hy => ?_, fun z => ?_, fun z => ?_⟩
            · rcases List.mem_cons.mp hy with z | z
              · rw [z]
                exact hxA
              · exact hlA y (by rw [els]; exact List.mem_cons_of_mem _ z)
            · have z' := V.str.inj (of_decide_eq_true z)
              rcases hxb with ⟨_, h2⟩ | ⟨h1, _⟩
              · exact read_good h2 (by decide) fun p hp => by
                  have := hN p hp
                  omega
              · exact absurd z' h1
            · have z' := of_decide_eq_false z
              rcases hxb with ⟨h1, _⟩ | ⟨_, h2⟩
              · exact absurd (congrArg V.str h1) z'
              · exact read_first h2
          · exact iteDn (fun z => c2 (V.int.inj z)) stay
        · exact iteDn (fun z => c (V.int.inj z)) (iteF stay)
      subst hσ
      unfold lawT3
      dsimp only
      -- no lines
      refine seq_by (fun σ' Hx => ∃ (lb : Addr) (ms : List Str) (wb : Nat) (good : Bool), σ' = [some (.ref a1), some (.int (wb : Nat)), some (.ref pa), some (.ref lb), some (.int way), some (.ref t3), some (.bl good), none, none] ∧ Ints Hx a1 ns1 ∧ Posts Hx pa ps ∧ Hx lb = some (.lst (ms.map V.str)) ∧ ms.length ≤ 40 ∧ (∀ x ∈ ms, Asc x) ∧
          (good = true → readOf ms = some (wb, ps)) ∧ (good = false → readOf ms = none)) (fun N hNx => ?_) (fun σ' H11 ⟨lc, us, wc, gd, hσ, c11, hP11, el11, hul, huA, hu1, hu2⟩ => ?_)
      · have stay := hNx _ _ ⟨lb, ms, wb, good, rfl, c10, hP10, el10, hml, hmA, hg1, hg2⟩
        refine ⟨_, rfl, rfl, _, rfl, ?_⟩
        by_cases c : way = 19
        · refine iteD (congrArg V.int c) ⟨_, rfl, a1, 2, ns1, rfl, c10, by omega, _, _, rfl, rfl, (by show (0 : Int) < 5; decide), rfl, _, rfl, ?_⟩
          by_cases c2 : ns1.getD 2 0 % 5 = 1
          · refine iteD (congrArg V.int c2) ⟨Nat.zero_le _, fun l0 hl0 => ?_⟩
            have S1 := Same.new (o := .lst []) hl0
            exact hNx _ _ ⟨l0, [], wb, false, rfl, S1 _ _ c10, hP10.mono S1, upd_same, Nat.zero_le _, (fun x hx => by cases hx), (fun z => by cases z), fun _ => rfl⟩
          · exact iteDn (fun z => c2 (V.int.inj z)) stay
        · exact iteDn (fun z => c (V.int.inj z)) (iteF stay)
      subst hσ
      refine seq_by (fun σ' Hx => σ' = [some (.ref a1), some (.int (wc : Nat)), some (.ref pa), some (.ref lc), some (.int way), some (.ref t3), some (.bl gd), some .non, none] ∧ Hx = H11) (fun N hNx => hNx _ _ ⟨rfl, rfl⟩) (fun σ0 Hw ⟨hσ, hHw⟩ => ?_)
      subst hσ hHw
      refine seq_by (fun σ' Hx => σ' = [some (.ref a1), some (.int (wc : Nat)), some (.ref pa), some (.ref lc), some (.int way), some (.ref t3), some (.bl gd), some .non, some (.bl false)] ∧ Hx = Hw) (fun N hNx => hNx _ _ ⟨rfl, rfl⟩) (fun σ0 Hv ⟨hσ, hHv⟩ => ?_)
      subst hσ hHv
      unfold lawT4
      dsimp only
      cases gd with
      | true =>
        have hrd := hu1 rfl
        refine ⟨_, rfl, lc, _, rfl, .inl (SqL.of el11), fun l1 hl1 => ⟨l1, us, rfl, upd_same, hul, huA, fun w' ps' e r l H' s' n' er hPl => ?_, fun hn => by rw [hrd] at hn; cases hn⟩⟩
        rw [hrd] at e
        cases e
        have S := (Same.new hl1).trans s'
        refine ⟨_, rfl, _, rfl, iteF ?_⟩
        exact ⟨_, rfl, _, rfl, _, rfl, iteT ⟨_, rfl, _, rfl, _, rfl, r, l, pa, wc, ps, rfl, er, hPl, hP11.mono S, k _⟩⟩
      | false =>
        have hrd := hu2 rfl
        refine ⟨_, rfl, lc, _, rfl, .inl (SqL.of el11), fun l1 hl1 => ⟨l1, us, rfl, upd_same, hul, huA, (fun w' ps' e => by rw [hrd] at e; cases e), fun _ ea H' s' => ⟨ea, rfl, t.c_NoNet, true, rfl, T.x_NoNet, T.m_NoNet_NoNet, iteT ?_⟩⟩⟩
        have S := (Same.new hl1).trans s'
        refine ⟨_, rfl, _, rfl, iteT ?_⟩
        exact ⟨_, rfl, _, rfl, iteT ⟨_, rfl, lc, us, rfl, S _ _ el11, hul, huA, hrd, fun H2 _ => k H2⟩⟩
end
end PN
namespace PN
open PySem L2
theorem txt_mk {K : PySem.W.Frag} {h : Heap} {mg : Str → Option Value} (X : K.In h) (G : h.Ns mainGlobals mg)
    {f0 : Addr} {od0 an0 : Option Addr} {sl0 : Array (Option Value)} {oc0 kV0 dc0 pm0 cd0 ct0 : Value}
    {f1 : Addr} {od1 an1 : Option Addr} {sl1 : Array (Option Value)} {oc1 kV1 dc1 pm1 cd1 ct1 : Value}
    {f2 : Addr} {od2 an2 : Option Addr} {sl2 : Array (Option Value)} {oc2 kV2 dc2 pm2 cd2 ct2 : Value}
    {f3 : Addr} {od3 an3 : Option Addr} {sl3 : Array (Option Value)} {oc3 kV3 dc3 pm3 cd3 ct3 : Value}
    {f4 : Addr} {od4 an4 : Option Addr} {sl4 : Array (Option Value)} {oc4 kV4 dc4 pm4 cd4 ct4 : Value}
    {f5 : Addr} {od5 an5 : Option Addr} {sl5 : Array (Option Value)} {oc5 kV5 dc5 pm5 cd5 ct5 : Value}
    {f6 : Addr} {od6 an6 : Option Addr} {sl6 : Array (Option Value)} {oc6 kV6 dc6 pm6 cd6 ct6 : Value}
    {f7 : Addr} {od7 an7 : Option Addr} {sl7 : Array (Option Value)} {oc7 kV7 dc7 pm7 cd7 ct7 : Value}
    {f8 : Addr} {od8 an8 : Option Addr} {sl8 : Array (Option Value)} {oc8 kV8 dc8 pm8 cd8 ct8 : Value}
    {f9 : Addr} {od9 an9 : Option Addr} {sl9 : Array (Option Value)} {oc9 kV9 dc9 pm9 cd9 ct9 : Value}
    {f10 : Addr} {od10 an10 : Option Addr} {sl10 : Array (Option Value)} {oc10 kV10 dc10 pm10 cd10 ct10 : Value}
    {f11 : Addr} {od11 an11 : Option Addr} {sl11 : Array (Option Value)} {oc11 kV11 dc11 pm11 cd11 ct11 : Value}
    {d_NetError d_BadPost d_BadRow d_TooWide d_NoNet : Addr}
    {tk_FIGURES : Tok}
    (a0 : PySem.W.nsIn K mainGlobals "check_net" = some (some (.ref f0)))
    (l0 : K.lookup f0 = some ⟨oc0, od0, .func (PySem.W.fnOf "check_net" "check_net" (defArgs s_check_net) (defBody s_check_net) (defScope s_check_net) .none kV0 dc0 pm0 an0 cd0 ct0), sl0⟩)
    (c0 : PySem.W.codeIn K cd0 "check_net" = true)
    (k0 : PySem.W.keepIn K (.ref f0) = true)
    (a1 : PySem.W.nsIn K mainGlobals "number_of" = some (some (.ref f1)))
    (l1 : K.lookup f1 = some ⟨oc1, od1, .func (PySem.W.fnOf "number_of" "number_of" (defArgs s_number_of) (defBody s_number_of) (defScope s_number_of) .none kV1 dc1 pm1 an1 cd1 ct1), sl1⟩)
    (c1 : PySem.W.codeIn K cd1 "number_of" = true)
    (k1 : PySem.W.keepIn K (.ref f1) = true)
    (a2 : PySem.W.nsIn K mainGlobals "post_of" = some (some (.ref f2)))
    (l2 : K.lookup f2 = some ⟨oc2, od2, .func (PySem.W.fnOf "post_of" "post_of" (defArgs s_post_of) (defBody s_post_of) (defScope s_post_of) .none kV2 dc2 pm2 an2 cd2 ct2), sl2⟩)
    (c2 : PySem.W.codeIn K cd2 "post_of" = true)
    (k2 : PySem.W.keepIn K (.ref f2) = true)
    (a3 : PySem.W.nsIn K mainGlobals "read" = some (some (.ref f3)))
    (l3 : K.lookup f3 = some ⟨oc3, od3, .func (PySem.W.fnOf "read" "read" (defArgs s_read) (defBody s_read) (defScope s_read) .none kV3 dc3 pm3 an3 cd3 ct3), sl3⟩)
    (c3 : PySem.W.codeIn K cd3 "read" = true)
    (k3 : PySem.W.keepIn K (.ref f3) = true)
    (a4 : PySem.W.nsIn K mainGlobals "_law_whole" = some (some (.ref f4)))
    (l4 : K.lookup f4 = some ⟨oc4, od4, .func (PySem.W.fnOf "_law_whole" "_law_whole" (defArgs s__law_whole) (defBody s__law_whole) (defScope s__law_whole) .none kV4 dc4 pm4 an4 cd4 ct4), sl4⟩)
    (c4 : PySem.W.codeIn K cd4 "_law_whole" = true)
    (k4 : PySem.W.keepIn K (.ref f4) = true)
    (a5 : PySem.W.nsIn K mainGlobals "_law_at" = some (some (.ref f5)))
    (l5 : K.lookup f5 = some ⟨oc5, od5, .func (PySem.W.fnOf "_law_at" "_law_at" (defArgs s__law_at) (defBody s__law_at) (defScope s__law_at) .none kV5 dc5 pm5 an5 cd5 ct5), sl5⟩)
    (c5 : PySem.W.codeIn K cd5 "_law_at" = true)
    (k5 : PySem.W.keepIn K (.ref f5) = true)
    (a6 : PySem.W.nsIn K mainGlobals "_law_posts_by" = some (some (.ref f6)))
    (l6 : K.lookup f6 = some ⟨oc6, od6, .func (PySem.W.fnOf "_law_posts_by" "_law_posts_by" (defArgs s__law_posts_by) (defBody s__law_posts_by) (defScope s__law_posts_by) .none kV6 dc6 pm6 an6 cd6 ct6), sl6⟩)
    (c6 : PySem.W.codeIn K cd6 "_law_posts_by" = true)
    (k6 : PySem.W.keepIn K (.ref f6) = true)
    (a7 : PySem.W.nsIn K mainGlobals "_law_are_posts" = some (some (.ref f7)))
    (l7 : K.lookup f7 = some ⟨oc7, od7, .func (PySem.W.fnOf "_law_are_posts" "_law_are_posts" (defArgs s__law_are_posts) (defBody s__law_are_posts) (defScope s__law_are_posts) .none kV7 dc7 pm7 an7 cd7 ct7), sl7⟩)
    (c7 : PySem.W.codeIn K cd7 "_law_are_posts" = true)
    (k7 : PySem.W.keepIn K (.ref f7) = true)
    (a8 : PySem.W.nsIn K mainGlobals "_law_lines_of" = some (some (.ref f8)))
    (l8 : K.lookup f8 = some ⟨oc8, od8, .func (PySem.W.fnOf "_law_lines_of" "_law_lines_of" (defArgs s__law_lines_of) (defBody s__law_lines_of) (defScope s__law_lines_of) .none kV8 dc8 pm8 an8 cd8 ct8), sl8⟩)
    (c8 : PySem.W.codeIn K cd8 "_law_lines_of" = true)
    (k8 : PySem.W.keepIn K (.ref f8) = true)
    (a9 : PySem.W.nsIn K mainGlobals "_law_net_is" = some (some (.ref f9)))
    (l9 : K.lookup f9 = some ⟨oc9, od9, .func (PySem.W.fnOf "_law_net_is" "_law_net_is" (defArgs s__law_net_is) (defBody s__law_net_is) (defScope s__law_net_is) .none kV9 dc9 pm9 an9 cd9 ct9), sl9⟩)
    (c9 : PySem.W.codeIn K cd9 "_law_net_is" = true)
    (k9 : PySem.W.keepIn K (.ref f9) = true)
    (a10 : PySem.W.nsIn K mainGlobals "_law_refused_so" = some (some (.ref f10)))
    (l10 : K.lookup f10 = some ⟨oc10, od10, .func (PySem.W.fnOf "_law_refused_so" "_law_refused_so" (defArgs s__law_refused_so) (defBody s__law_refused_so) (defScope s__law_refused_so) .none kV10 dc10 pm10 an10 cd10 ct10), sl10⟩)
    (c10 : PySem.W.codeIn K cd10 "_law_refused_so" = true)
    (k10 : PySem.W.keepIn K (.ref f10) = true)
    (a11 : PySem.W.nsIn K mainGlobals "law" = some (some (.ref f11)))
    (l11 : K.lookup f11 = some ⟨oc11, od11, .func (PySem.W.fnOf "law" "law" (defArgs s_law) (defBody s_law) (defScope s_law) .none kV11 dc11 pm11 an11 cd11 ct11), sl11⟩)
    (c11 : PySem.W.codeIn K cd11 "law" = true)
    (k11 : PySem.W.keepIn K (.ref f11) = true)
    (z_ValueError : PySem.W.nsIn K mainGlobals "ValueError" = some none)
    (z_bool : PySem.W.nsIn K mainGlobals "bool" = some none)
    (z_enumerate : PySem.W.nsIn K mainGlobals "enumerate" = some none)
    (z_int : PySem.W.nsIn K mainGlobals "int" = some none)
    (z_isinstance : PySem.W.nsIn K mainGlobals "isinstance" = some none)
    (z_len : PySem.W.nsIn K mainGlobals "len" = some none)
    (z_list : PySem.W.nsIn K mainGlobals "list" = some none)
    (z_str : PySem.W.nsIn K mainGlobals "str" = some none)
    (z_tuple : PySem.W.nsIn K mainGlobals "tuple" = some none)
    (ec_get : PySem.W.specialIn K (.builtin "object.__class__") "__get__" = some (some (.builtin "getset_descriptor.__get__")))
    (ec_tk : PySem.W.takesIn K (.builtin "object.__class__") = some true)
    (k_NetError : PySem.W.nsIn K mainGlobals "NetError" = some (some (.ref d_NetError)))
    (x_NetError : PySem.W.excIn K d_NetError bmV "ValueError.__new__" = true)
    (e0_NetError : PySem.W.findIn K (.ref d_NetError) "__getattribute__" = some (some (.builtin "BaseException.__getattribute__")))
    (e1_NetError : PySem.W.findIn K (.ref d_NetError) "__getattr__" = some none)
    (e2_NetError : PySem.W.findIn K (.ref d_NetError) "__class__" = some (some (.builtin "object.__class__")))
    (e3_NetError : PySem.W.mroIn K d_NetError (.type "object") = some true)
    (e4_NetError : PySem.W.mroIn K d_NetError (.type "BaseException") = some true)
    (m_NetError_NetError : PySem.W.mroIn K d_NetError (.ref d_NetError) = some true)
    (i_NetError_NetError : PySem.W.kitOne K (.ref d_NetError) (.ref d_NetError) = some true)
    (m_NetError_BadPost : PySem.W.mroIn K d_NetError (.ref d_BadPost) = some false)
    (i_NetError_BadPost : PySem.W.kitOne K (.ref d_NetError) (.ref d_BadPost) = some false)
    (m_NetError_BadRow : PySem.W.mroIn K d_NetError (.ref d_BadRow) = some false)
    (i_NetError_BadRow : PySem.W.kitOne K (.ref d_NetError) (.ref d_BadRow) = some false)
    (m_NetError_TooWide : PySem.W.mroIn K d_NetError (.ref d_TooWide) = some false)
    (i_NetError_TooWide : PySem.W.kitOne K (.ref d_NetError) (.ref d_TooWide) = some false)
    (m_NetError_NoNet : PySem.W.mroIn K d_NetError (.ref d_NoNet) = some false)
    (i_NetError_NoNet : PySem.W.kitOne K (.ref d_NetError) (.ref d_NoNet) = some false)
    (v_NetError : PySem.W.kitOne K (.ref d_NetError) (.type "ValueError") = some true)
    (k_BadPost : PySem.W.nsIn K mainGlobals "BadPost" = some (some (.ref d_BadPost)))
    (x_BadPost : PySem.W.excIn K d_BadPost bmV "ValueError.__new__" = true)
    (e0_BadPost : PySem.W.findIn K (.ref d_BadPost) "__getattribute__" = some (some (.builtin "BaseException.__getattribute__")))
    (e1_BadPost : PySem.W.findIn K (.ref d_BadPost) "__getattr__" = some none)
    (e2_BadPost : PySem.W.findIn K (.ref d_BadPost) "__class__" = some (some (.builtin "object.__class__")))
    (e3_BadPost : PySem.W.mroIn K d_BadPost (.type "object") = some true)
    (e4_BadPost : PySem.W.mroIn K d_BadPost (.type "BaseException") = some true)
    (m_BadPost_NetError : PySem.W.mroIn K d_BadPost (.ref d_NetError) = some true)
    (i_BadPost_NetError : PySem.W.kitOne K (.ref d_BadPost) (.ref d_NetError) = some true)
    (m_BadPost_BadPost : PySem.W.mroIn K d_BadPost (.ref d_BadPost) = some true)
    (i_BadPost_BadPost : PySem.W.kitOne K (.ref d_BadPost) (.ref d_BadPost) = some true)
    (m_BadPost_BadRow : PySem.W.mroIn K d_BadPost (.ref d_BadRow) = some false)
    (i_BadPost_BadRow : PySem.W.kitOne K (.ref d_BadPost) (.ref d_BadRow) = some false)
    (m_BadPost_TooWide : PySem.W.mroIn K d_BadPost (.ref d_TooWide) = some false)
    (i_BadPost_TooWide : PySem.W.kitOne K (.ref d_BadPost) (.ref d_TooWide) = some false)
    (m_BadPost_NoNet : PySem.W.mroIn K d_BadPost (.ref d_NoNet) = some false)
    (i_BadPost_NoNet : PySem.W.kitOne K (.ref d_BadPost) (.ref d_NoNet) = some false)
    (v_BadPost : PySem.W.kitOne K (.ref d_BadPost) (.type "ValueError") = some true)
    (k_BadRow : PySem.W.nsIn K mainGlobals "BadRow" = some (some (.ref d_BadRow)))
    (x_BadRow : PySem.W.excIn K d_BadRow bmV "ValueError.__new__" = true)
    (e0_BadRow : PySem.W.findIn K (.ref d_BadRow) "__getattribute__" = some (some (.builtin "BaseException.__getattribute__")))
    (e1_BadRow : PySem.W.findIn K (.ref d_BadRow) "__getattr__" = some none)
    (e2_BadRow : PySem.W.findIn K (.ref d_BadRow) "__class__" = some (some (.builtin "object.__class__")))
    (e3_BadRow : PySem.W.mroIn K d_BadRow (.type "object") = some true)
    (e4_BadRow : PySem.W.mroIn K d_BadRow (.type "BaseException") = some true)
    (m_BadRow_NetError : PySem.W.mroIn K d_BadRow (.ref d_NetError) = some true)
    (i_BadRow_NetError : PySem.W.kitOne K (.ref d_BadRow) (.ref d_NetError) = some true)
    (m_BadRow_BadPost : PySem.W.mroIn K d_BadRow (.ref d_BadPost) = some false)
    (i_BadRow_BadPost : PySem.W.kitOne K (.ref d_BadRow) (.ref d_BadPost) = some false)
    (m_BadRow_BadRow : PySem.W.mroIn K d_BadRow (.ref d_BadRow) = some true)
    (i_BadRow_BadRow : PySem.W.kitOne K (.ref d_BadRow) (.ref d_BadRow) = some true)
    (m_BadRow_TooWide : PySem.W.mroIn K d_BadRow (.ref d_TooWide) = some false)
    (i_BadRow_TooWide : PySem.W.kitOne K (.ref d_BadRow) (.ref d_TooWide) = some false)
    (m_BadRow_NoNet : PySem.W.mroIn K d_BadRow (.ref d_NoNet) = some false)
    (i_BadRow_NoNet : PySem.W.kitOne K (.ref d_BadRow) (.ref d_NoNet) = some false)
    (v_BadRow : PySem.W.kitOne K (.ref d_BadRow) (.type "ValueError") = some true)
    (k_TooWide : PySem.W.nsIn K mainGlobals "TooWide" = some (some (.ref d_TooWide)))
    (x_TooWide : PySem.W.excIn K d_TooWide bmV "ValueError.__new__" = true)
    (e0_TooWide : PySem.W.findIn K (.ref d_TooWide) "__getattribute__" = some (some (.builtin "BaseException.__getattribute__")))
    (e1_TooWide : PySem.W.findIn K (.ref d_TooWide) "__getattr__" = some none)
    (e2_TooWide : PySem.W.findIn K (.ref d_TooWide) "__class__" = some (some (.builtin "object.__class__")))
    (e3_TooWide : PySem.W.mroIn K d_TooWide (.type "object") = some true)
    (e4_TooWide : PySem.W.mroIn K d_TooWide (.type "BaseException") = some true)
    (m_TooWide_NetError : PySem.W.mroIn K d_TooWide (.ref d_NetError) = some true)
    (i_TooWide_NetError : PySem.W.kitOne K (.ref d_TooWide) (.ref d_NetError) = some true)
    (m_TooWide_BadPost : PySem.W.mroIn K d_TooWide (.ref d_BadPost) = some false)
    (i_TooWide_BadPost : PySem.W.kitOne K (.ref d_TooWide) (.ref d_BadPost) = some false)
    (m_TooWide_BadRow : PySem.W.mroIn K d_TooWide (.ref d_BadRow) = some false)
    (i_TooWide_BadRow : PySem.W.kitOne K (.ref d_TooWide) (.ref d_BadRow) = some false)
    (m_TooWide_TooWide : PySem.W.mroIn K d_TooWide (.ref d_TooWide) = some true)
    (i_TooWide_TooWide : PySem.W.kitOne K (.ref d_TooWide) (.ref d_TooWide) = some true)
    (m_TooWide_NoNet : PySem.W.mroIn K d_TooWide (.ref d_NoNet) = some false)
    (i_TooWide_NoNet : PySem.W.kitOne K (.ref d_TooWide) (.ref d_NoNet) = some false)
    (v_TooWide : PySem.W.kitOne K (.ref d_TooWide) (.type "ValueError") = some true)
    (k_NoNet : PySem.W.nsIn K mainGlobals "NoNet" = some (some (.ref d_NoNet)))
    (x_NoNet : PySem.W.excIn K d_NoNet bmV "ValueError.__new__" = true)
    (e0_NoNet : PySem.W.findIn K (.ref d_NoNet) "__getattribute__" = some (some (.builtin "BaseException.__getattribute__")))
    (e1_NoNet : PySem.W.findIn K (.ref d_NoNet) "__getattr__" = some none)
    (e2_NoNet : PySem.W.findIn K (.ref d_NoNet) "__class__" = some (some (.builtin "object.__class__")))
    (e3_NoNet : PySem.W.mroIn K d_NoNet (.type "object") = some true)
    (e4_NoNet : PySem.W.mroIn K d_NoNet (.type "BaseException") = some true)
    (m_NoNet_NetError : PySem.W.mroIn K d_NoNet (.ref d_NetError) = some true)
    (i_NoNet_NetError : PySem.W.kitOne K (.ref d_NoNet) (.ref d_NetError) = some true)
    (m_NoNet_BadPost : PySem.W.mroIn K d_NoNet (.ref d_BadPost) = some false)
    (i_NoNet_BadPost : PySem.W.kitOne K (.ref d_NoNet) (.ref d_BadPost) = some false)
    (m_NoNet_BadRow : PySem.W.mroIn K d_NoNet (.ref d_BadRow) = some false)
    (i_NoNet_BadRow : PySem.W.kitOne K (.ref d_NoNet) (.ref d_BadRow) = some false)
    (m_NoNet_TooWide : PySem.W.mroIn K d_NoNet (.ref d_TooWide) = some false)
    (i_NoNet_TooWide : PySem.W.kitOne K (.ref d_NoNet) (.ref d_TooWide) = some false)
    (m_NoNet_NoNet : PySem.W.mroIn K d_NoNet (.ref d_NoNet) = some true)
    (i_NoNet_NoNet : PySem.W.kitOne K (.ref d_NoNet) (.ref d_NoNet) = some true)
    (v_NoNet : PySem.W.kitOne K (.ref d_NoNet) (.type "ValueError") = some true)
    (c_FIGURES : PySem.W.nsIn K mainGlobals "FIGURES" = some (some (.str "0123456789" tk_FIGURES)))
    : ∃ t : Adr, Txt K mg t := by
  refine ⟨⟨f0, PySem.W.fnOf "check_net" "check_net" (defArgs s_check_net) (defBody s_check_net) (defScope s_check_net) .none kV0 dc0 pm0 an0 cd0 ct0, f1, PySem.W.fnOf "number_of" "number_of" (defArgs s_number_of) (defBody s_number_of) (defScope s_number_of) .none kV1 dc1 pm1 an1 cd1 ct1, f2, PySem.W.fnOf "post_of" "post_of" (defArgs s_post_of) (defBody s_post_of) (defScope s_post_of) .none kV2 dc2 pm2 an2 cd2 ct2, f3, PySem.W.fnOf "read" "read" (defArgs s_read) (defBody s_read) (defScope s_read) .none kV3 dc3 pm3 an3 cd3 ct3, f4, PySem.W.fnOf "_law_whole" "_law_whole" (defArgs s__law_whole) (defBody s__law_whole) (defScope s__law_whole) .none kV4 dc4 pm4 an4 cd4 ct4, f5, PySem.W.fnOf "_law_at" "_law_at" (defArgs s__law_at) (defBody s__law_at) (defScope s__law_at) .none kV5 dc5 pm5 an5 cd5 ct5, f6, PySem.W.fnOf "_law_posts_by" "_law_posts_by" (defArgs s__law_posts_by) (defBody s__law_posts_by) (defScope s__law_posts_by) .none kV6 dc6 pm6 an6 cd6 ct6, f7, PySem.W.fnOf "_law_are_posts" "_law_are_posts" (defArgs s__law_are_posts) (defBody s__law_are_posts) (defScope s__law_are_posts) .none kV7 dc7 pm7 an7 cd7 ct7, f8, PySem.W.fnOf "_law_lines_of" "_law_lines_of" (defArgs s__law_lines_of) (defBody s__law_lines_of) (defScope s__law_lines_of) .none kV8 dc8 pm8 an8 cd8 ct8, f9, PySem.W.fnOf "_law_net_is" "_law_net_is" (defArgs s__law_net_is) (defBody s__law_net_is) (defScope s__law_net_is) .none kV9 dc9 pm9 an9 cd9 ct9, f10, PySem.W.fnOf "_law_refused_so" "_law_refused_so" (defArgs s__law_refused_so) (defBody s__law_refused_so) (defScope s__law_refused_so) .none kV10 dc10 pm10 an10 cd10 ct10, f11, PySem.W.fnOf "law" "law" (defArgs s_law) (defBody s_law) (defScope s_law) .none kV11 dc11 pm11 an11 cd11 ct11, d_NetError, d_BadPost, d_BadRow, d_TooWide, d_NoNet, tk_FIGURES⟩, ?_⟩
  constructor
  case F_check_net => exact fun_mk (st := s_check_net) l0 c0 k0
  case b_check_net => exact (fun_mk (st := s_check_net) l0 c0 k0).binds (ps := ["width", "posts"]) fun _ _ _ _ _ _ us hl => match us, hl with | [_, _], _ => rfl
  case m_check_net => exact PySem.W.mg_of X G a0
  case F_number_of => exact fun_mk (st := s_number_of) l1 c1 k1
  case b_number_of => exact (fun_mk (st := s_number_of) l1 c1 k1).binds (ps := ["text"]) fun _ _ _ _ _ _ us hl => match us, hl with | [_], _ => rfl
  case m_number_of => exact PySem.W.mg_of X G a1
  case F_post_of => exact fun_mk (st := s_post_of) l2 c2 k2
  case b_post_of => exact (fun_mk (st := s_post_of) l2 c2 k2).binds (ps := ["text"]) fun _ _ _ _ _ _ us hl => match us, hl with | [_], _ => rfl
  case m_post_of => exact PySem.W.mg_of X G a2
  case F_read => exact fun_mk (st := s_read) l3 c3 k3
  case b_read => exact (fun_mk (st := s_read) l3 c3 k3).binds (ps := ["lines"]) fun _ _ _ _ _ _ us hl => match us, hl with | [_], _ => rfl
  case m_read => exact PySem.W.mg_of X G a3
  case F__law_whole => exact fun_mk (st := s__law_whole) l4 c4 k4
  case b__law_whole => exact (fun_mk (st := s__law_whole) l4 c4 k4).binds (ps := ["_law_found"]) fun _ _ _ _ _ _ us hl => match us, hl with | [_], _ => rfl
  case m__law_whole => exact PySem.W.mg_of X G a4
  case F__law_at => exact fun_mk (st := s__law_at) l5 c5 k5
  case b__law_at => exact (fun_mk (st := s__law_at) l5 c5 k5).binds (ps := ["_law_script", "_law_k"]) fun _ _ _ _ _ _ us hl => match us, hl with | [_, _], _ => rfl
  case m__law_at => exact PySem.W.mg_of X G a5
  case F__law_posts_by => exact fun_mk (st := s__law_posts_by) l6 c6 k6
  case b__law_posts_by => exact (fun_mk (st := s__law_posts_by) l6 c6 k6).binds (ps := ["_law_width", "_law_cells"]) fun _ _ _ _ _ _ us hl => match us, hl with | [_, _], _ => rfl
  case m__law_posts_by => exact PySem.W.mg_of X G a6
  case F__law_are_posts => exact fun_mk (st := s__law_are_posts) l7 c7 k7
  case b__law_are_posts => exact (fun_mk (st := s__law_are_posts) l7 c7 k7).binds (ps := ["_law_found"]) fun _ _ _ _ _ _ us hl => match us, hl with | [_], _ => rfl
  case m__law_are_posts => exact PySem.W.mg_of X G a7
  case F__law_lines_of => exact fun_mk (st := s__law_lines_of) l8 c8 k8
  case b__law_lines_of => exact (fun_mk (st := s__law_lines_of) l8 c8 k8).binds (ps := ["_law_width", "_law_rows"]) fun _ _ _ _ _ _ us hl => match us, hl with | [_, _], _ => rfl
  case m__law_lines_of => exact PySem.W.mg_of X G a8
  case F__law_net_is => exact fun_mk (st := s__law_net_is) l9 c9 k9
  case b__law_net_is => exact (fun_mk (st := s__law_net_is) l9 c9 k9).binds (ps := ["_law_found", "_law_width", "_law_posts"]) fun _ _ _ _ _ _ us hl => match us, hl with | [_, _, _], _ => rfl
  case m__law_net_is => exact PySem.W.mg_of X G a9
  case F__law_refused_so => exact fun_mk (st := s__law_refused_so) l10 c10 k10
  case b__law_refused_so => exact (fun_mk (st := s__law_refused_so) l10 c10 k10).binds (ps := ["_law_lines"]) fun _ _ _ _ _ _ us hl => match us, hl with | [_], _ => rfl
  case m__law_refused_so => exact PySem.W.mg_of X G a10
  case F_law => exact fun_mk (st := s_law) l11 c11 k11
  case b_law => exact (fun_mk (st := s_law) l11 c11 k11).binds (ps := ["_law_script"]) fun _ _ _ _ _ _ us hl => match us, hl with | [_], _ => rfl
  case m_law => exact PySem.W.mg_of X G a11
  case z_ValueError => exact PySem.W.mg_none_of X G z_ValueError
  case z_bool => exact PySem.W.mg_none_of X G z_bool
  case z_enumerate => exact PySem.W.mg_none_of X G z_enumerate
  case z_int => exact PySem.W.mg_none_of X G z_int
  case z_isinstance => exact PySem.W.mg_none_of X G z_isinstance
  case z_len => exact PySem.W.mg_none_of X G z_len
  case z_list => exact PySem.W.mg_none_of X G z_list
  case z_str => exact PySem.W.mg_none_of X G z_str
  case z_tuple => exact PySem.W.mg_none_of X G z_tuple
  case k_NetError => exact PySem.W.mg_of X G k_NetError
  case x_NetError => exact x_NetError
  case e_NetError => exact ⟨e0_NetError, e1_NetError, e2_NetError, e3_NetError, e4_NetError, ec_get, ec_tk⟩
  case m_NetError_NetError => exact m_NetError_NetError
  case i_NetError_NetError => exact i_NetError_NetError
  case m_NetError_BadPost => exact m_NetError_BadPost
  case i_NetError_BadPost => exact i_NetError_BadPost
  case m_NetError_BadRow => exact m_NetError_BadRow
  case i_NetError_BadRow => exact i_NetError_BadRow
  case m_NetError_TooWide => exact m_NetError_TooWide
  case i_NetError_TooWide => exact i_NetError_TooWide
  case m_NetError_NoNet => exact m_NetError_NoNet
  case i_NetError_NoNet => exact i_NetError_NoNet
  case v_NetError => exact v_NetError
  case k_BadPost => exact PySem.W.mg_of X G k_BadPost
  case x_BadPost => exact x_BadPost
  case e_BadPost => exact ⟨e0_BadPost, e1_BadPost, e2_BadPost, e3_BadPost, e4_BadPost, ec_get, ec_tk⟩
  case m_BadPost_NetError => exact m_BadPost_NetError
  case i_BadPost_NetError => exact i_BadPost_NetError
  case m_BadPost_BadPost => exact m_BadPost_BadPost
  case i_BadPost_BadPost => exact i_BadPost_BadPost
  case m_BadPost_BadRow => exact m_BadPost_BadRow
  case i_BadPost_BadRow => exact i_BadPost_BadRow
  case m_BadPost_TooWide => exact m_BadPost_TooWide
  case i_BadPost_TooWide => exact i_BadPost_TooWide
  case m_BadPost_NoNet => exact m_BadPost_NoNet
  case i_BadPost_NoNet => exact i_BadPost_NoNet
  case v_BadPost => exact v_BadPost
  case k_BadRow => exact PySem.W.mg_of X G k_BadRow
  case x_BadRow => exact x_BadRow
  case e_BadRow => exact ⟨e0_BadRow, e1_BadRow, e2_BadRow, e3_BadRow, e4_BadRow, ec_get, ec_tk⟩
  case m_BadRow_NetError => exact m_BadRow_NetError
  case i_BadRow_NetError => exact i_BadRow_NetError
  case m_BadRow_BadPost => exact m_BadRow_BadPost
  case i_BadRow_BadPost => exact i_BadRow_BadPost
  case m_BadRow_BadRow => exact m_BadRow_BadRow
  case i_BadRow_BadRow => exact i_BadRow_BadRow
  case m_BadRow_TooWide => exact m_BadRow_TooWide
  case i_BadRow_TooWide => exact i_BadRow_TooWide
  case m_BadRow_NoNet => exact m_BadRow_NoNet
  case i_BadRow_NoNet => exact i_BadRow_NoNet
  case v_BadRow => exact v_BadRow
  case k_TooWide => exact PySem.W.mg_of X G k_TooWide
  case x_TooWide => exact x_TooWide
  case e_TooWide => exact ⟨e0_TooWide, e1_TooWide, e2_TooWide, e3_TooWide, e4_TooWide, ec_get, ec_tk⟩
  case m_TooWide_NetError => exact m_TooWide_NetError
  case i_TooWide_NetError => exact i_TooWide_NetError
  case m_TooWide_BadPost => exact m_TooWide_BadPost
  case i_TooWide_BadPost => exact i_TooWide_BadPost
  case m_TooWide_BadRow => exact m_TooWide_BadRow
  case i_TooWide_BadRow => exact i_TooWide_BadRow
  case m_TooWide_TooWide => exact m_TooWide_TooWide
  case i_TooWide_TooWide => exact i_TooWide_TooWide
  case m_TooWide_NoNet => exact m_TooWide_NoNet
  case i_TooWide_NoNet => exact i_TooWide_NoNet
  case v_TooWide => exact v_TooWide
  case k_NoNet => exact PySem.W.mg_of X G k_NoNet
  case x_NoNet => exact x_NoNet
  case e_NoNet => exact ⟨e0_NoNet, e1_NoNet, e2_NoNet, e3_NoNet, e4_NoNet, ec_get, ec_tk⟩
  case m_NoNet_NetError => exact m_NoNet_NetError
  case i_NoNet_NetError => exact i_NoNet_NetError
  case m_NoNet_BadPost => exact m_NoNet_BadPost
  case i_NoNet_BadPost => exact i_NoNet_BadPost
  case m_NoNet_BadRow => exact m_NoNet_BadRow
  case i_NoNet_BadRow => exact i_NoNet_BadRow
  case m_NoNet_TooWide => exact m_NoNet_TooWide
  case i_NoNet_TooWide => exact i_NoNet_TooWide
  case m_NoNet_NoNet => exact m_NoNet_NoNet
  case i_NoNet_NoNet => exact i_NoNet_NoNet
  case v_NoNet => exact v_NoNet
  case c_FIGURES => exact PySem.W.mg_of X G c_FIGURES
  case bl => exact fun s v => .of_eq rfl
theorem walk {l : PySem.W.OpenLaw} {q : Program} {loose : List Str} {XP : (Str → Option Value) → Heap → Prop} {YP : World → Heap → Prop} {d : DefRec} {K : Params → PySem.W.Frag} (hn : l.most = some 63) (hdf : d.params.defaults = []) (hnm : d.name = "law")
    (hY : ∀ (w : World) (h : Heap), YP w h → (K w.params).In h)
    (F : ∀ (w : World) (mg : Str → Option Value) (h : Heap), (K w.params).In h → h.Ns mainGlobals mg → ∃ t : Adr, Txt (K w.params) mg t) :
    PySem.W.WalkO q loose XP YP l.row.toRowW d [] (fun f vs => PySem.call f vs) := by
  refine L2.walk_of (n := 63) (k := 8) (x := "_law_script") (K := K) (CX := fun _ => CX0) (sp := fun w => spLaw (K w.params)) hn (by decide) hdf ⟨rfl, by decide, by decide⟩ hY (fun w mg fa h KX G hfa => ?_) (fun _ _ a ns hl _ hS => ⟨a, ns, rfl, hS, hl, fun _ => rfl⟩) fun _ _ _ _ _ z => z
  obtain ⟨t, T⟩ := F w mg h KX G
  rw [hnm] at hfa
  have e := hfa.symm.trans T.m_law
  cases e
  exact ⟨t.fd_law, T.bl, fun base _ _ => ok_law T⟩
end PN
open PySem PySem.W PyProof.Rows
set_option maxRecDepth 100000 in
set_option maxHeartbeats 0 in
theorem PySem.Challenge.cw_postnet_k12_lines_refused_holds : PySem.Challenge.rw_postnet_k12_lines_refused.Holds := by
  w_on; o_law; k_head; (case hw => w_witness2)
  k_fill
  refine PN.walk (l := PySem.Challenge.rw_postnet_k12_lines_refused) rfl rfl rfl (fun w h Y => PySem.W.kIn_of Y) ?F
  case F =>
    intro w mg h KX G
    refine' PN.txt_mk KX G ?a0 ?l0 ?c0 ?k0 ?a1 ?l1 ?c1 ?k1 ?a2 ?l2 ?c2 ?k2 ?a3 ?l3 ?c3 ?k3 ?a4 ?l4 ?c4 ?k4 ?a5 ?l5 ?c5 ?k5 ?a6 ?l6 ?c6 ?k6 ?a7 ?l7 ?c7 ?k7 ?a8 ?l8 ?c8 ?k8 ?a9 ?l9 ?c9 ?k9 ?a10 ?l10 ?c10 ?k10 ?a11 ?l11 ?c11 ?k11 ?z_ValueError ?z_bool ?z_enumerate ?z_int ?z_isinstance ?z_len ?z_list ?z_str ?z_tuple ?ec_get ?ec_tk ?k_NetError ?x_NetError ?e0_NetError ?e1_NetError ?e2_NetError ?e3_NetError ?e4_NetError ?m_NetError_NetError ?i_NetError_NetError ?m_NetError_BadPost ?i_NetError_BadPost ?m_NetError_BadRow ?i_NetError_BadRow ?m_NetError_TooWide ?i_NetError_TooWide ?m_NetError_NoNet ?i_NetError_NoNet ?v_NetError ?k_BadPost ?x_BadPost ?e0_BadPost ?e1_BadPost ?e2_BadPost ?e3_BadPost ?e4_BadPost ?m_BadPost_NetError ?i_BadPost_NetError ?m_BadPost_BadPost ?i_BadPost_BadPost ?m_BadPost_BadRow ?i_BadPost_BadRow ?m_BadPost_TooWide ?i_BadPost_TooWide ?m_BadPost_NoNet ?i_BadPost_NoNet ?v_BadPost ?k_BadRow ?x_BadRow ?e0_BadRow ?e1_BadRow ?e2_BadRow ?e3_BadRow ?e4_BadRow ?m_BadRow_NetError ?i_BadRow_NetError ?m_BadRow_BadPost ?i_BadRow_BadPost ?m_BadRow_BadRow ?i_BadRow_BadRow ?m_BadRow_TooWide ?i_BadRow_TooWide ?m_BadRow_NoNet ?i_BadRow_NoNet ?v_BadRow ?k_TooWide ?x_TooWide ?e0_TooWide ?e1_TooWide ?e2_TooWide ?e3_TooWide ?e4_TooWide ?m_TooWide_NetError ?i_TooWide_NetError ?m_TooWide_BadPost ?i_TooWide_BadPost ?m_TooWide_BadRow ?i_TooWide_BadRow ?m_TooWide_TooWide ?i_TooWide_TooWide ?m_TooWide_NoNet ?i_TooWide_NoNet ?v_TooWide ?k_NoNet ?x_NoNet ?e0_NoNet ?e1_NoNet ?e2_NoNet ?e3_NoNet ?e4_NoNet ?m_NoNet_NetError ?i_NoNet_NetError ?m_NoNet_BadPost ?i_NoNet_BadPost ?m_NoNet_BadRow ?i_NoNet_BadRow ?m_NoNet_TooWide ?i_NoNet_TooWide ?m_NoNet_NoNet ?i_NoNet_NoNet ?v_NoNet ?c_FIGURES
    (case k_NetError => k_is)
    (case k_BadPost => k_is)
    (case k_BadRow => k_is)
    (case k_TooWide => k_is)
    (case k_NoNet => k_is)
    (case a0 => k_is)
    (case l0 => k_is)
    (case c0 => k_is)
    (case k0 => k_is)
    (case a1 => k_is)
    (case l1 => k_is)
    (case c1 => k_is)
    (case k1 => k_is)
    (case a2 => k_is)
    (case l2 => k_is)
    (case c2 => k_is)
    (case k2 => k_is)
    (case a3 => k_is)
    (case l3 => k_is)
    (case c3 => k_is)
    (case k3 => k_is)
    (case a4 => k_is)
    (case l4 => k_is)
    (case c4 => k_is)
    (case k4 => k_is)
    (case a5 => k_is)
    (case l5 => k_is)
    (case c5 => k_is)
    (case k5 => k_is)
    (case a6 => k_is)
    (case l6 => k_is)
    (case c6 => k_is)
    (case k6 => k_is)
    (case a7 => k_is)
    (case l7 => k_is)
    (case c7 => k_is)
    (case k7 => k_is)
    (case a8 => k_is)
    (case l8 => k_is)
    (case c8 => k_is)
    (case k8 => k_is)
    (case a9 => k_is)
    (case l9 => k_is)
    (case c9 => k_is)
    (case k9 => k_is)
    (case a10 => k_is)
    (case l10 => k_is)
    (case c10 => k_is)
    (case k10 => k_is)
    (case a11 => k_is)
    (case l11 => k_is)
    (case c11 => k_is)
    (case k11 => k_is)
    (case z_ValueError => k_is)
    (case z_bool => k_is)
    (case z_enumerate => k_is)
    (case z_int => k_is)
    (case z_isinstance => k_is)
    (case z_len => k_is)
    (case z_list => k_is)
    (case z_str => k_is)
    (case z_tuple => k_is)
    (case ec_get => k_is)
    (case ec_tk => k_is)
    (case x_NetError => k_exc)
    (case e0_NetError => k_is)
    (case e1_NetError => k_is)
    (case e2_NetError => k_is)
    (case e3_NetError => k_is)
    (case e4_NetError => k_is)
    (case m_NetError_NetError => k_is)
    (case i_NetError_NetError => kit_is)
    (case m_NetError_BadPost => k_is)
    (case i_NetError_BadPost => kit_is)
    (case m_NetError_BadRow => k_is)
    (case i_NetError_BadRow => kit_is)
    (case m_NetError_TooWide => k_is)
    (case i_NetError_TooWide => kit_is)
    (case m_NetError_NoNet => k_is)
    (case i_NetError_NoNet => kit_is)
    (case v_NetError => kit_is)
    (case x_BadPost => k_exc)
    (case e0_BadPost => k_is)
    (case e1_BadPost => k_is)
    (case e2_BadPost => k_is)
    (case e3_BadPost => k_is)
    (case e4_BadPost => k_is)
    (case m_BadPost_NetError => k_is)
    (case i_BadPost_NetError => kit_is)
    (case m_BadPost_BadPost => k_is)
    (case i_BadPost_BadPost => kit_is)
    (case m_BadPost_BadRow => k_is)
    (case i_BadPost_BadRow => kit_is)
    (case m_BadPost_TooWide => k_is)
    (case i_BadPost_TooWide => kit_is)
    (case m_BadPost_NoNet => k_is)
    (case i_BadPost_NoNet => kit_is)
    (case v_BadPost => kit_is)
    (case x_BadRow => k_exc)
    (case e0_BadRow => k_is)
    (case e1_BadRow => k_is)
    (case e2_BadRow => k_is)
    (case e3_BadRow => k_is)
    (case e4_BadRow => k_is)
    (case m_BadRow_NetError => k_is)
    (case i_BadRow_NetError => kit_is)
    (case m_BadRow_BadPost => k_is)
    (case i_BadRow_BadPost => kit_is)
    (case m_BadRow_BadRow => k_is)
    (case i_BadRow_BadRow => kit_is)
    (case m_BadRow_TooWide => k_is)
    (case i_BadRow_TooWide => kit_is)
    (case m_BadRow_NoNet => k_is)
    (case i_BadRow_NoNet => kit_is)
    (case v_BadRow => kit_is)
    (case x_TooWide => k_exc)
    (case e0_TooWide => k_is)
    (case e1_TooWide => k_is)
    (case e2_TooWide => k_is)
    (case e3_TooWide => k_is)
    (case e4_TooWide => k_is)
    (case m_TooWide_NetError => k_is)
    (case i_TooWide_NetError => kit_is)
    (case m_TooWide_BadPost => k_is)
    (case i_TooWide_BadPost => kit_is)
    (case m_TooWide_BadRow => k_is)
    (case i_TooWide_BadRow => kit_is)
    (case m_TooWide_TooWide => k_is)
    (case i_TooWide_TooWide => kit_is)
    (case m_TooWide_NoNet => k_is)
    (case i_TooWide_NoNet => kit_is)
    (case v_TooWide => kit_is)
    (case x_NoNet => k_exc)
    (case e0_NoNet => k_is)
    (case e1_NoNet => k_is)
    (case e2_NoNet => k_is)
    (case e3_NoNet => k_is)
    (case e4_NoNet => k_is)
    (case m_NoNet_NetError => k_is)
    (case i_NoNet_NetError => kit_is)
    (case m_NoNet_BadPost => k_is)
    (case i_NoNet_BadPost => kit_is)
    (case m_NoNet_BadRow => k_is)
    (case i_NoNet_BadRow => kit_is)
    (case m_NoNet_TooWide => k_is)
    (case i_NoNet_TooWide => kit_is)
    (case m_NoNet_NoNet => k_is)
    (case i_NoNet_NoNet => kit_is)
    (case v_NoNet => kit_is)
    (case c_FIGURES => k_is)
#print axioms PySem.Challenge.cw_postnet_k12_lines_refused_holds
