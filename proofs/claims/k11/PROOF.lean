import PyProof.Rows.All
import Wide.All
import OpenK.AllK
import Wide.FinOn
import Lean
import PyProof.EqAt
import PyProof.EqKinds
import PyProof.TupleCall
import PySem.Challenge.RW_postnet_k11_whole_written_and_read
set_option Elab.async false
set_option linter.all false
set_option maxRecDepth 100000
/-! THE HAND LAYER, for ints, bools, texts, own classes, LISTS and tuples (index, slices, in, append, pop ..), calls, loops. Paste it whole ahead of your own text; what your proof does not reach may be deleted. -/
namespace L2
open PySem PySem.Spec PyProof.Rows

/-- a key: an int or a str -/
abbrev Key := Sum Int Str
def keyIs : Key → Value → Bool
  | .inl k, v => Value.isInt k v
  | .inr x, v => Value.isStrOf x v
def keyH (w : World) : Key → Int
  | .inl k => hashInt k
  | .inr x => hashStr w x
theorem keyIs_shape : ∀ {k : Key} {v : Value}, keyIs k v = true → (∃ i t, k = Sum.inl i ∧ v = Value.int i t) ∨ (∃ x t, k = Sum.inr x ∧ v = Value.str x t)
  | .inl i, v, h => by
    obtain ⟨t, e⟩ := Value.isInt_shape (k := i) (v := v) h
    exact .inl ⟨i, t, rfl, e⟩
  | .inr x, v, h => by
    obtain ⟨t, e⟩ := Value.isStrOf_shape (x := x) (v := v) h
    exact .inr ⟨x, t, rfl, e⟩
theorem keyIs_int (i : Int) (t : Tok) : keyIs (.inl i) (.int i t) = true := by simp [keyIs, Value.isInt]
theorem keyIs_str (x : Str) (t : Tok) : keyIs (.inr x) (.str x t) = true := by simp [keyIs, Value.isStrOf]
theorem key_ll (a b : Int) : decide ((Sum.inl a : Key) = Sum.inl b) = (a == b) := by
  by_cases e : a = b
  · subst e; simp
  · have h : ¬ (Sum.inl a : Key) = Sum.inl b := fun q => e (Sum.inl.inj q)
    rw [decide_eq_false h]
    exact (beq_eq_false_iff_ne.mpr e).symm
theorem key_rr (a b : Str) : decide ((Sum.inr a : Key) = Sum.inr b) = decide (a = b) := by
  by_cases e : a = b
  · subst e; simp
  · have h : ¬ (Sum.inr a : Key) = Sum.inr b := fun q => e (Sum.inr.inj q)
    rw [decide_eq_false h, decide_eq_false e]
theorem key_lr (a : Int) (b : Str) : decide ((Sum.inl a : Key) = Sum.inr b) = false := decide_eq_false (fun q => nomatch q)
theorem key_rl (a : Str) (b : Int) : decide ((Sum.inr a : Key) = Sum.inl b) = false := decide_eq_false (fun q => nomatch q)

def mixKind (prog : Program) (w : World) : PySem.KeyKind prog w Key where
  is := keyIs
  hash := keyH w
  inj := fun v a b ha hb => by
    rcases keyIs_shape ha with ⟨i, t, rfl, rfl⟩ | ⟨x, t, rfl, rfl⟩
    · rcases keyIs_shape hb with ⟨j, u, rfl, e⟩ | ⟨y, u, rfl, e⟩
      · injection e with e1 _; rw [e1]
      · exact nomatch e
    · rcases keyIs_shape hb with ⟨j, u, rfl, e⟩ | ⟨y, u, rfl, e⟩
      · exact nomatch e
      · injection e with e1 _; rw [e1]
  byValue := fun k v h => by
    rcases keyIs_shape h with ⟨i, t, rfl, rfl⟩ | ⟨x, t, rfl, rfl⟩ <;> rfl
  pyHash := fun hv h => by
    rcases keyIs_shape hv with ⟨i, t, rfl, rfl⟩ | ⟨x, t, rfl, rfl⟩
    · exact wpAny_pyHash_int h
    · exact wpAny_pyHash_str h
  eqBool := fun hu hv h => by
    rcases keyIs_shape hu with ⟨i, t, rfl, rfl⟩ | ⟨x, t, rfl, rfl⟩
    · rcases keyIs_shape hv with ⟨j, u, rfl, rfl⟩ | ⟨y, u, rfl, rfl⟩
      · rw [key_ll] at h; exact wpAny_eqBool_int h
      · rw [key_lr] at h; exact SeqAt.EqAt.int_str i t y u _ _ _ _ h
    · rcases keyIs_shape hv with ⟨j, u, rfl, rfl⟩ | ⟨y, u, rfl, rfl⟩
      · rw [key_rl] at h; exact SeqAt.EqAt.str_int x t j u _ _ _ _ h
      · rw [key_rr] at h; exact wpAny_eqBool_str h
  «strs» := fun k x t v h => by
    rcases keyIs_shape h with ⟨i, u, rfl, e⟩ | ⟨y, u, rfl, e⟩
    · exact nomatch e
    · injection e with e1 _
      subst e1
      cases v <;> rfl

theorem mixKind_is (prog : Program) (w : World) (k : Key) (v : Value) : (mixKind prog w).is k v = keyIs k v := rfl
theorem mixKind_int (prog : Program) (w : World) (i : Int) (t : Tok) : (mixKind prog w).is (.inl i) (.int i t) = true := keyIs_int i t
theorem mixKind_str (prog : Program) (w : World) (x : Str) (t : Tok) : (mixKind prog w).is (.inr x) (.str x t) = true := keyIs_str x t
end L2

namespace L2
open PySem PySem.Spec PyProof.Rows

/-- a value, without the heap -/
inductive V where
  | non | bl (b : Bool) | int (i : Int) | str (x : Str) | byt (b : Array UInt8) | flt (b : UInt64) | ref (a : Addr) | ty (n : String)
  deriving DecidableEq

def RelV : V → Value → Prop
  | .non, u => u = Value.none
  | .bl b, u => u = Value.bool b
  | .int i, u => ∃ t, u = Value.int i t
  | .str x, u => ∃ t, u = Value.str x t
  | .byt b, u => ∃ t, u = Value.bytes b t
  | .flt b, u => ∃ t, u = Value.float b t
  | .ref a, u => u = Value.ref a
  | .ty n, u => u = Value.type n

abbrev Vals : List V → List Value → Prop := Paired RelV
theorem Vals.length {xs : List V} {us : List Value} (r : Vals xs us) : xs.length = us.length := Paired.length r
theorem Vals.get : ∀ {xs : List V} {us : List Value} {i : Nat} {x : V}, Vals xs us → xs[i]? = some x → ∃ u, us[i]? = some u ∧ RelV x u
  | _, _, _, _, .nil, e => by simp at e
  | _, _, 0, _, .cons r _, e => by simp at e; subst e; exact ⟨_, rfl, r⟩
  | _, _, i + 1, x, .cons _ t, e => by
    obtain ⟨u, h1, h2⟩ := Vals.get (i := i) (x := x) t (by simpa using e)
    exact ⟨u, by simpa using h1, h2⟩
theorem Vals.set {x : V} {u : Value} (r : RelV x u) : ∀ {xs : List V} {us : List Value} (i : Nat), Vals xs us → Vals (xs.set i x) (us.set i u)
  | _, _, _, .nil => .nil
  | _, _, 0, .cons _ t => .cons r t
  | _, _, i + 1, .cons q t => .cons q (Vals.set r i t)
theorem Vals.append : ∀ {xs ys : List V} {us ws : List Value}, Vals xs us → Vals ys ws → Vals (xs ++ ys) (us ++ ws)
  | _, _, _, _, .nil, s => s
  | _, _, _, _, .cons r t, s => .cons r (Vals.append t s)
theorem Vals.take : ∀ {xs : List V} {us : List Value} (n : Nat), Vals xs us → Vals (xs.take n) (us.take n)
  | _, _, 0, _ => .nil
  | _, _, _ + 1, .nil => .nil
  | _, _, n + 1, .cons r t => .cons r (Vals.take n t)
theorem Vals.drop : ∀ {xs : List V} {us : List Value} (n : Nat), Vals xs us → Vals (xs.drop n) (us.drop n)
  | _, _, 0, r => r
  | _, _, _ + 1, .nil => .nil
  | _, _, n + 1, .cons _ t => Vals.drop n t
theorem Vals.none_of : ∀ {xs : List V} {us : List Value} {i : Nat}, Vals xs us → xs[i]? = none → us[i]? = none := fun {xs us i} r e => by
  have h1 := r.length
  have h2 : xs.length ≤ i := List.getElem?_eq_none_iff.mp e
  exact List.getElem?_eq_none_iff.mpr (by omega)

def RelO : Option V → Option Value → Prop
  | some v, some u => RelV v u
  | none, none => True
  | _, _ => False
def KV {κ : Type} : List (κ × V) → List (κ × Value) → Prop := Paired fun (p : κ × V) (q : κ × Value) => p.1 = q.1 ∧ RelV p.2 q.2

/-- a key of a dict (00_mix): an int or a text -/
def kV : Key → V
  | .inl i => .int i
  | .inr x => .str x

/-- what stands at a tracked address -/
inductive HO where
  /-- a list -/
  | lst (xs : List V)
  /-- a tuple (never changes) -/
  | tup (xs : List V)
  /-- a dict whose keys are ints and texts; one whose keys are tuples of ints and texts (the empty one is both) -/
  | dK (kvs : List (Key × V)) | dT (kvs : List (List Key × V))
  /-- a set of ints: its members, its size -/
  | set (S : Int → Bool) (n : Nat)
  /-- an instance of the class at C, its dict at dx, its attributes -/
  | ins (C dx : Addr) (fs : List (Str × V))
  /-- the dict of the instance at x -/
  | own (x : Addr)
  /-- the dict of an exception -/
  | xd (fs : List (Str × V))
  /-- a bound method, f of x -/
  | met (f x : Addr)
  /-- a range object lo, lo + 1, .. below hi -/
  | rng (lo hi : Int)
  /-- a thing that is known to the object (the script; a dict while a loop walks it): read, never written while it is so -/
  | frz (o : Obj) (u : HO)
  /-- a code object's table -/
  | tbl (ps : Array Value)
  /-- any other thing, by what is true of its one object (a def of one's own: SetO a S n := HO.ext fun h => ..) -/
  | ext (φ : Heap → Prop)

abbrev Hp := Addr → Option HO
def upd (H : Hp) (a : Addr) (o : HO) : Hp := fun b => if b = a then some o else H b
theorem upd_same {H : Hp} {a : Addr} {o : HO} : upd H a o a = some o := by unfold upd; rw [if_pos rfl]
theorem upd_ne {H : Hp} {a b : Addr} {o : HO} (h : b ≠ a) : upd H a o b = H b := by unfold upd; rw [if_neg h]
theorem upd_upd {H : Hp} {a : Addr} {o u : HO} : upd (upd H a o) a u = upd H a u := by
  funext b; unfold upd; split <;> rfl
/-- two objects of different content stand apart -/
theorem ne_of {H : Hp} {a b : Addr} {o u : HO} (h : H a = some o) (h' : H b = some u) (d : o ≠ u) : a ≠ b := by
  intro e; subst e; rw [h] at h'; exact d (Option.some.inj h')
theorem ne_of_none {H : Hp} {a b : Addr} {o : HO} (h : H a = some o) (h' : H b = none) : a ≠ b := by
  intro e; subst e; rw [h] at h'; cases h'

section
variable (P : Program) (w : World)
def ObjOk (H : Hp) (h : Heap) (a : Addr) : HO → Prop
  | .lst xs => xs.length ≤ sizeLine ∧ ∃ (its : List Value) (n : Nat), Vals xs its ∧ h.get? a = some { cls := .type "list", data := .seq its.toArray n }
  | .tup xs => xs.length ≤ sizeLine ∧ ∃ its : List Value, Vals xs its ∧ IsTup h a its.toArray
  | .dK kvs => kvs.length ≤ sizeLine ∧ (a == sysModules) = false ∧ ∃ vs, KV kvs vs ∧ h.DictOf (mixKind P w) a vs
  | .dT kvs => kvs.length ≤ sizeLine ∧ (a == sysModules) = false ∧ ∃ xs : List (List Key × Addr × Value),
      Paired (fun (p : List Key × V) (q : List Key × Addr × Value) => p.1 = q.1 ∧ H q.2.1 = some (.tup (p.1.map kV)) ∧ RelV p.2 q.2.2) kvs xs ∧
      ∃ o es ep, h.get? a = some o ∧ o.ExactDict ∧ o.data = .dict es ep ∧ es.toList = xs.map (entryOfKey (tupleKind (mixKind P w))) ∧ (xs.map (·.1)).Nodup
  | .set S n => h.SetOf (intKind P w) a S n
  | .ins C dx fs => H dx = some (.own a) ∧ fs.length ≤ 1000 ∧ dx ≠ a ∧ h.get? a = some (PySem.W.instObj C dx) ∧
      ∃ mA, h.Ns1 dx mA ∧ (∀ f, RelO (fs.lookup f) (mA f)) ∧ PySem.Within mA (fs.map (·.1))
  | .own _ => ∃ o, h.get? a = some o
  | .xd fs => ∃ mA, h.Ns1 a mA ∧ ∀ f, RelO (fs.lookup f) (mA f)
  | .rng lo hi => ∃ t u v, h.get? a = some { cls := .type "range", data := .fields #[.int lo t, .int hi u, .int 1 v] }
  | .frz o u => h.get? a = some o ∧ ObjOk H h a u
  | .tbl ps => h.get? a = some { cls := .none, data := .fields ps }
  | .met f x => h.get? a = some (PySem.W.methodObj (.ref f) (.ref x))
  | .ext φ => φ h ∧ (∃ o, h.get? a = some o) ∧ ∀ h1 h2 : Heap, φ h1 → (∀ o, h1.get? a = some o → h2.get? a = some o) → φ h2
/-- the abstract heap is held -/
def HOk (H : Hp) (h : Heap) : Prop := ∀ a o, H a = some o → ObjOk P w H h a o
end

section
variable {P : Program} {w : World} {H H' : Hp} {h h' : Heap} {a : Addr} {o : HO}
theorem ObjOk.lt (x : ObjOk P w H h a o) : a < h.objs.size := by
  cases o with
  | lst xs => obtain ⟨_, _, _, _, e⟩ := x; exact Heap.lt_size e
  | tup xs => obtain ⟨_, _, _, p⟩ := x; exact p.lt
  | dK kvs => obtain ⟨_, _, _, _, o, _, _, e, _⟩ := x; exact Heap.lt_size e
  | dT kvs => obtain ⟨_, _, _, _, o, _, _, e, _⟩ := x; exact Heap.lt_size e
  | set S n => obtain ⟨o, _, _, _, e, _⟩ := x; exact Heap.lt_size e
  | ins C dx fs => obtain ⟨_, _, _, e, _⟩ := x; exact Heap.lt_size e
  | own y => obtain ⟨_, e⟩ := x; exact Heap.lt_size e
  | xd fs => obtain ⟨_, ⟨_, _, _, e, _⟩, _⟩ := x; exact Heap.lt_size e
  | rng lo hi => obtain ⟨_, _, _, e⟩ := x; exact Heap.lt_size e
  | frz ob u => obtain ⟨e, _⟩ := x; exact Heap.lt_size e
  | tbl ps => exact Heap.lt_size (show h.get? a = some _ from x)
  | met f y => exact Heap.lt_size (show h.get? a = some _ from x)
  | ext φ => obtain ⟨_, ⟨_, e⟩, _⟩ := x; exact Heap.lt_size e
theorem Paired.mapP {α β : Type} {F G : α → β → Prop} : ∀ {l₁ : List α} {l₂ : List β}, Paired F l₁ l₂ → (∀ a b, F a b → G a b) → Paired G l₁ l₂
  | _, _, .nil, _ => .nil
  | _, _, .cons r t, f => .cons (f _ _ r) (Paired.mapP t f)
theorem Paired.imp' {α β : Type} {F G : α → β → Prop} (f : ∀ a b, F a b → G a b) {l₁ : List α} {l₂ : List β} (r : Paired F l₁ l₂) : Paired G l₁ l₂ := Paired.mapP r f
/-- what an object's description leans on: its own object, its own dict, the tuples -/
theorem ObjOk.stay (x : ObjOk P w H h a o) (k : ∀ b u, (b = a ∨ H b = some (.own a)) → h.get? b = some u → h'.get? b = some u)
    (ho : ∀ b, H b = some (.own a) → H' b = some (.own a)) (ht : ∀ b xs, H b = some (.tup xs) → H' b = some (.tup xs)) : ObjOk P w H' h' a o := by
  induction o with
  | lst xs => obtain ⟨z, its, n, r, e⟩ := x; exact ⟨z, its, n, r, k _ _ (.inl rfl) e⟩
  | tup xs => obtain ⟨z, its, r, ob, e, c⟩ := x; exact ⟨z, its, r, ob, k _ _ (.inl rfl) e, c⟩
  | dK kvs => obtain ⟨z, y, vs, r, ob, es, ep, e, c⟩ := x; exact ⟨z, y, vs, r, ob, es, ep, k _ _ (.inl rfl) e, c⟩
  | dT kvs =>
    obtain ⟨z, y, xs, r, ob, es, ep, e, c⟩ := x
    exact ⟨z, y, xs, Paired.mapP r fun p q z => ⟨z.1, ht _ _ z.2.1, z.2.2⟩, ob, es, ep, k _ _ (.inl rfl) e, c⟩
  | set S n => obtain ⟨ob, es, ep, t, e, c⟩ := x; exact ⟨ob, es, ep, t, k _ _ (.inl rfl) e, c⟩
  | ins C dx fs =>
    obtain ⟨d, z, ne, e, mA, ⟨od, es, ep, e2, c⟩, r⟩ := x
    exact ⟨ho _ d, z, ne, k _ _ (.inl rfl) e, mA, ⟨od, es, ep, k _ _ (.inr d) e2, c⟩, r⟩
  | own y => obtain ⟨ob, e⟩ := x; exact ⟨ob, k _ _ (.inl rfl) e⟩
  | xd fs => obtain ⟨mA, ⟨od, es, ep, e, c⟩, r⟩ := x; exact ⟨mA, ⟨od, es, ep, k _ _ (.inl rfl) e, c⟩, r⟩
  | rng lo hi => obtain ⟨t, u, v, e⟩ := x; exact ⟨t, u, v, k _ _ (.inl rfl) e⟩
  | frz ob u ih => obtain ⟨e, q⟩ := x; exact ⟨k _ _ (.inl rfl) e, ih q⟩
  | tbl ps =>
    have e : h.get? a = some { cls := .none, data := .fields ps } := x
    show h'.get? a = some { cls := .none, data := .fields ps }
    exact k a _ (.inl rfl) e
  | met f y =>
    have e : h.get? a = some (PySem.W.methodObj (.ref f) (.ref y)) := x
    show h'.get? a = some (PySem.W.methodObj (.ref f) (.ref y))
    exact k a _ (.inl rfl) e
  | ext φ => obtain ⟨p, ⟨o, e⟩, st⟩ := x; exact ⟨st _ _ p fun o q => k _ _ (.inl rfl) q, ⟨o, k _ _ (.inl rfl) e⟩, st⟩
theorem HOk.lt (x : HOk P w H h) (e : H a = some o) : a < h.objs.size := (x a o e).lt
theorem HOk.fresh (x : HOk P w H h) (e : h.objs.size ≤ a) : H a = none := by
  cases q : H a with
  | none => rfl
  | some u => exact absurd (Nat.lt_of_lt_of_le (x.lt q) e) (Nat.lt_irrefl _)
/-- every object of the heap is kept -/
theorem HOk.kept (x : HOk P w H h) (k : ∀ b u, h.get? b = some u → h'.get? b = some u) : HOk P w H h' := fun a o e =>
  (x a o e).stay (fun b u _ q => k b u q) (fun _ q => q) fun _ _ q => q
/-- a new object is laid and tracked -/
theorem HOk.laid (x : HOk P w H h) (k : ∀ b u, h.get? b = some u → h'.get? b = some u) (hp : h.objs.size ≤ a) (new : ObjOk P w (upd H a o) h' a o) : HOk P w (upd H a o) h' := fun b u e => by
  have hn := x.fresh hp
  by_cases hb : b = a
  · subst hb; rw [upd_same] at e; cases e; exact new
  · rw [upd_ne hb] at e
    exact (x b u e).stay (fun c v _ q => k c v q) (fun c q => by rw [upd_ne (ne_of_none q hn)]; exact q) fun c xs q => by rw [upd_ne (ne_of_none q hn)]; exact q
end

/-- what may be read as u: it is u, or a known u -/
def Rd (H : Hp) (a : Addr) (u : HO) : Prop := H a = some u ∨ ∃ o, H a = some (.frz o u)
theorem Rd.of {H : Hp} {a : Addr} {u : HO} (h : H a = some u) : Rd H a u := .inl h
theorem Rd.ok {P : Program} {w : World} {H : Hp} {h : Heap} {a : Addr} {u : HO} (r : Rd H a u) (x : HOk P w H h) : ObjOk P w H h a u := by
  rcases r with r | ⟨o, r⟩
  · exact x a u r
  · obtain ⟨_, q⟩ := x a _ r
    exact q
/-- what may be written -/
def Mut : Option HO → Prop
  | some (.lst _) => True
  | some (.dK _) => True
  | some (.dT _) => True
  | some (.set _ _) => True
  | some (.ins _ _ _) => True
  | some (.ext _) => True
  | _ => False
section
variable {P : Program} {w : World} {H : Hp} {h h' : Heap} {x e : Addr} {o' : HO}
/-- the object at e is changed: x itself, or the dict of the instance x -/
theorem HOk.write (ok : HOk P w H h) (mu : Mut (H x)) (he : e = x ∨ H e = some (.own x)) (k : ∀ b u, b ≠ e → h.get? b = some u → h'.get? b = some u) (heo : ∃ u, h'.get? e = some u)
    (new : ObjOk P w (upd H x o') h' x o') : HOk P w (upd H x o') h' := fun b u q => by
  have nown : ∀ c y, H c = some (.own y) → c ≠ x := fun c y r z => by subst z; rw [r] at mu; exact mu
  have ntup : ∀ c xs, H c = some (.tup xs) → c ≠ x := fun c xs r z => by subst z; rw [r] at mu; exact mu
  by_cases hb : b = x
  · subst hb; rw [upd_same] at q; cases q; exact new
  · rw [upd_ne hb] at q
    by_cases hbe : b = e
    · have q' : H b = some (.own x) := by
        rcases he with z | z
        · exact absurd (hbe.trans z) hb
        · rw [hbe]; exact z
      rw [q] at q'; cases q'
      obtain ⟨v, hv⟩ := heo
      exact ⟨v, by rw [hbe]; exact hv⟩
    · refine (ok b u q).stay (fun c v hc r => k c v ?_ r) (fun c r => by rw [upd_ne (nown c b r)]; exact r) fun c xs r => by rw [upd_ne (ntup c xs r)]; exact r
      rcases hc with rfl | hc
      · exact hbe
      · rintro rfl
        rcases he with z | z
        · exact nown c b hc z
        · rw [hc] at z; cases z; exact hb rfl
end

/-! ### kept unless tracked; of the frames at fs (the callers') the slots may change (an exception that passes writes there); of the records at ex (iterators) nothing is said -/
structure Un (fs ex : List Addr) (H H' : Hp) (h h' : Heap) : Prop where
  keep : ∀ b o, h.get? b = some o → H b = none → b ∉ fs → b ∉ ex → h'.get? b = some o
  slot : ∀ b o, h.get? b = some o → H b = none → b ∈ fs → b ∉ ex → ∃ sl, h'.get? b = some { o with slots := sl }
  free : ∀ b o, h.get? b = some o → H b = none → b ∉ ex → H' b = none
  there : ∀ b o, h.get? b = some o → b ∉ ex → ∃ o', h'.get? b = some o'
  tups : ∀ b xs, H b = some (.tup xs) → H' b = some (.tup xs)
  frzs : ∀ b o u, H b = some (.frz o u) → H' b = some (.frz o u)
  tbls : ∀ b ps, H b = some (.tbl ps) → ∃ more, H' b = some (.tbl (ps ++ more))
section
variable {fs fs' ex ex' : List Addr} {H H1 H2 : Hp} {h h1 h2 h' : Heap} {a x e : Addr} {o : HO}
theorem Un.any (u : Un fs ex H H1 h h1) {b : Addr} {ob : Obj} (q : h.get? b = some ob) (n : H b = none) (hx : b ∉ ex) : ∃ sl, h1.get? b = some { ob with slots := sl } := by
  by_cases hb : b ∈ fs
  · exact u.slot b ob q n hb hx
  · exact ⟨ob.slots, u.keep b ob q n hb hx⟩
theorem Un.trans (a : Un fs ex H H1 h h1) (b : Un fs ex H1 H2 h1 h2) : Un fs ex H H2 h h2 where
  keep := fun c ob q n hc hx => b.keep c ob (a.keep c ob q n hc hx) (a.free c ob q n hx) hc hx
  slot := fun c ob q n hc hx => by
    obtain ⟨sl, e1⟩ := a.slot c ob q n hc hx
    obtain ⟨sl', e2⟩ := b.slot c _ e1 (a.free c ob q n hx) hc hx
    exact ⟨sl', e2⟩
  free := fun c ob q n hx => by
    obtain ⟨o', e1⟩ := a.there c ob q hx
    exact b.free c o' e1 (a.free c ob q n hx) hx
  there := fun c ob q hx => by
    obtain ⟨o', e1⟩ := a.there c ob q hx
    exact b.there c o' e1 hx
  tups := fun c xs q => b.tups c xs (a.tups c xs q)
  frzs := fun c ob xs q => b.frzs c ob xs (a.frzs c ob xs q)
  tbls := fun c ps q => by
    obtain ⟨m1, e1⟩ := a.tbls c ps q
    obtain ⟨m2, e2⟩ := b.tbls c _ e1
    exact ⟨m1 ++ m2, by rw [e2, Array.append_assoc]⟩
theorem Un.kept (k : ∀ b u, h.get? b = some u → h'.get? b = some u) : Un fs ex H H h h' :=
  ⟨fun b ob q _ _ _ => k b ob q, fun b ob q _ _ _ => ⟨ob.slots, k b ob q⟩, fun _ _ _ n _ => n, fun b ob q _ => ⟨ob, k b ob q⟩, fun _ _ q => q, fun _ _ _ q => q, fun _ ps q => ⟨#[], by rw [q]; simp⟩⟩
theorem Un.refl : Un fs ex H H h h := Un.kept fun _ _ q => q
theorem Un.laid (k : ∀ b u, h.get? b = some u → h'.get? b = some u) (hp : h.objs.size ≤ a) (hn : H a = none) : Un fs ex H (upd H a o) h h' where
  keep := fun b u q _ _ _ => k b u q
  slot := fun b u q _ _ _ => ⟨u.slots, k b u q⟩
  free := fun b u q n _ => by rw [upd_ne (Nat.ne_of_lt (Nat.lt_of_lt_of_le (Heap.lt_size q) hp))]; exact n
  there := fun b u q _ => ⟨u, k b u q⟩
  tups := fun b xs q => by rw [upd_ne (ne_of_none q hn)]; exact q
  frzs := fun b u xs q => by rw [upd_ne (ne_of_none q hn)]; exact q
  tbls := fun b ps q => ⟨#[], by rw [upd_ne (ne_of_none q hn), q]; simp⟩
theorem Un.write (mu : Mut (H x)) (he : e = x ∨ H e = some (.own x)) (k : ∀ b u, b ≠ e → h.get? b = some u → h'.get? b = some u) (heo : ∃ u, h'.get? e = some u) : Un fs ex H (upd H x o) h h' := by
  have hx : ∀ b, H b = none → b ≠ x := fun b n z => by subst z; rw [n] at mu; exact mu
  have hb : ∀ b, H b = none → b ≠ e := fun b n z => by
    subst z
    rcases he with r | r
    · exact hx b n r
    · rw [n] at r; cases r
  have hm : ∀ b u, H b = some u → ¬ Mut (some u) → b ≠ x := fun b u q nm z => by subst z; rw [q] at mu; exact nm mu
  refine ⟨fun b u q n _ _ => k b u (hb b n) q, fun b u q n _ _ => ⟨u.slots, k b u (hb b n) q⟩, fun b u q n _ => by rw [upd_ne (hx b n)]; exact n, fun b u q _ => ?_,
    fun b xs q => by rw [upd_ne (hm b _ q fun z => z)]; exact q, fun b u xs q => by rw [upd_ne (hm b _ q fun z => z)]; exact q, fun b ps q => ⟨#[], by rw [upd_ne (hm b _ q fun z => z), q]; simp⟩⟩
  by_cases hbe : b = e
  · subst hbe; exact heo
  · exact ⟨u, k b u hbe q⟩
theorem Un.mono (u : Un fs ex H H1 h h1) (hs : ∀ b ∈ fs, b ∈ fs') (hx : ∀ b ∈ ex, b ∈ ex') : Un fs' ex' H H1 h h1 :=
  ⟨fun b ob q n hb he => u.keep b ob q n (fun z => hb (hs b z)) fun z => he (hx b z), fun _ _ q n _ he => u.any q n fun z => he (hx _ z), fun b ob q n he => u.free b ob q n fun z => he (hx b z), fun b ob q he => u.there b ob q fun z => he (hx b z), u.tups, u.frzs, u.tbls⟩
end

/-! ### the heap without what is tracked -/
def trk (h : Heap) (H : Hp) : List Addr := (List.range h.objs.size).filter fun a => (H a).isSome
def hidT (h : Heap) (H : Hp) : Heap := PySem.W.hideAll h (trk h H)
theorem hidT_size (h : Heap) (H : Hp) : (hidT h H).objs.size = h.objs.size := PySem.W.hideAll_size _ _
theorem hidT_get {h : Heap} {H : Hp} {b : Addr} {o : Obj} (e : h.get? b = some o) (n : H b = none) : (hidT h H).get? b = some o :=
  PySem.W.hideAll_get _ e fun hm => by
    have q : (H b).isSome = true := (List.mem_filter.mp hm).2
    rw [n] at q; simp at q
theorem of_hidT {h : Heap} {H : Hp} {b : Addr} {o : Obj} (e : (hidT h H).get? b = some o) : h.get? b = some o ∧ H b = none := by
  have e' : h.get? b = some o := PySem.W.of_hideAll (trk h H) e
  refine ⟨e', ?_⟩
  cases q : H b with
  | none => rfl
  | some x =>
    have hm : b ∈ trk h H := List.mem_filter.mpr ⟨List.mem_range.mpr (Heap.lt_size e'), by simp [q]⟩
    have z : (hidT h H).get? b = none := PySem.W.hideAll_none (trk h H) hm
    rw [z] at e; cases e

/-! ### OpenK's ledger, filled with every new object but one -/
def allNews (g h : Heap) (L : Addr) : List (Addr × Obj) := (List.range h.objs.size).filterMap fun a => if a = L ∨ (g.get? a).isSome = true then none else (h.get? a).map fun o => (a, o)
theorem mem_allNews {g h : Heap} {L a : Addr} {o : Obj} (h1 : a ≠ L) (h2 : g.get? a = none) (h3 : h.get? a = some o) : (a, o) ∈ allNews g h L :=
  List.mem_filterMap.mpr ⟨a, List.mem_range.mpr (Heap.lt_size h3), by simp [h1, h2, h3]⟩
theorem of_mem_allNews {g h : Heap} {L : Addr} {p : Addr × Obj} (hp : p ∈ allNews g h L) : p.1 ≠ L ∧ g.get? p.1 = none ∧ h.get? p.1 = some p.2 := by
  obtain ⟨b, _, e⟩ := List.mem_filterMap.mp hp
  split at e
  · cases e
  · rename_i hn
    cases q : h.get? b with
    | none => rw [q] at e; simp at e
    | some u =>
      rw [q] at e
      simp only [Option.map_some, Option.some.injEq] at e
      subst e
      refine ⟨fun z => hn (.inl z), ?_, q⟩
      show g.get? b = none
      cases r : g.get? b with
      | none => rfl
      | some v => exact (hn (.inr (by simp [r]))).elim
def rest (g h : Heap) (L d : Addr) : List (Addr × Obj) := (allNews g h L).filter fun p => decide (p.1 ≠ d)
theorem rest_ne {g h : Heap} {L d : Addr} : ∀ p ∈ rest g h L d, p.1 ≠ d := fun p hp => of_decide_eq_true (List.mem_filter.mp hp).2
theorem mem_rest {g h : Heap} {L d a : Addr} {o : Obj} (h1 : a ≠ L) (h2 : g.get? a = none) (h3 : h.get? a = some o) (h4 : a ≠ d) : (a, o) ∈ rest g h L d :=
  List.mem_filter.mpr ⟨mem_allNews h1 h2 h3, decide_eq_true h4⟩
theorem news_all {g h : Heap} {L : Addr} : News g L h (allNews g h L) := fun p hp => let ⟨a, b, c⟩ := of_mem_allNews hp; ⟨c, a, b⟩
theorem news_at {g h : Heap} {L d : Addr} {o : Obj} (h1 : d ≠ L) (h2 : g.get? d = none) (h3 : h.get? d = some o) : News g L h ((d, o) :: rest g h L d) := fun p hp => by
  rcases List.mem_cons.mp hp with rfl | hp
  · exact ⟨h3, h1, h2⟩
  · exact news_all p (List.mem_filter.mp hp).1
/-- behind a rule that changed d alone: all else but the frame is kept -/
theorem kept_of_news {g h h' : Heap} {L d : Addr} {m : Str → Option Value} (k : ∀ b o, g.get? b = some o → h.get? b = some o) (F : Fr g L h' m) (N : News g L h' (rest g h L d)) :
    ∀ b o, b ≠ L → b ≠ d → h.get? b = some o → h'.get? b = some o := fun b o h1 h2 e => by
  cases q : g.get? b with
  | some u =>
    have := k b u q
    rw [e] at this; cases this
    exact F.keep b _ q
  | none => exact (N (b, o) (mem_rest h1 q e h2)).1
end L2

namespace L2
open PySem PySem.Spec PyProof.Rows

/-- the module's facts, over the base: the heap at the law's entry without what is tracked there -/
structure Mod (K : PySem.W.Frag) (mg : Str → Option Value) (base : Heap) : Prop where
  kin : K.In base
  glob : base.Ns mainGlobals mg
  blt : ∃ mb, base.Ns builtinsNs mb ∧ ∀ x : Str, x ≠ "__name__" → mb x = bootBuiltins x
  nolimit : base.NoLimit

/-- the context: a def's body (or a comprehension's block) running. base: fixed through the whole law; s₀, H₀: the entry; outer: the frames whose slots others may change (a def's callers); stack: all frames that run;
   ex: iterators that were made ahead of the entry and are walked here (a comprehension's); fn: the names whose cells were made at the entry (a def: all; a comprehension's block: its own); calm: not within an except suite; pn: pins that every state bears; xe: what is wanted of an exception that leaves the code -/
structure Cx where
  prog : Program
  w : World
  K : PySem.W.Frag
  mg : Str → Option Value
  base : Heap
  A : Around
  N : List Str
  s₀ : Shared
  H₀ : Hp
  env : Env
  outer : List Env
  stack : List Env
  ex : List Addr
  fn : Str → Bool
  calm : Bool
  pn : List (Addr × Obj)
  xe : Value → Shared → Prop
/-- the callers' frames -/
def frs (l : List Env) : List Addr := l.filterMap (·.frame)
abbrev Cx.fs (X : Cx) : List Addr := frs X.outer

def Vis (sc : Scope) (x : Str) : Prop := sc.names.lookup x = some .local ∨ sc.names.lookup x = some .cell ∨ sc.names.lookup x = some .free
def Loc (sc : Scope) (x : Str) : Prop := sc.names.lookup x = some .local ∨ sc.names.lookup x = some .cell
def Look (env : Env) (h : Heap) (m : Str → Option Value) (x : Str) (u : Value) : Prop :=
  (env.kindOf x = some .local ∧ m x = some u) ∨ ((env.kindOf x = some .cell ∨ env.kindOf x = some .free) ∧ ∃ c, env.cells.lookup x = some c ∧ h.IsCell c (some u))

structure Cx.Ok (X : Cx) : Prop where
  mod : Mod X.K X.mg X.base
  kind : X.env.scope.kind = .function
  glob : X.env.globals = mainGlobals
  blt : X.env.builtins = builtinsNs
  above : X.s₀.heap.objs.size ≤ X.env.locals
  inj : ∀ x y c, X.env.cells.lookup x = some c → X.env.cells.lookup y = some c → x = y
  has : ∀ x, (X.env.kindOf x = some .cell ∨ X.env.kindOf x = some .free) → ∃ c, X.env.cells.lookup x = some c
  cab : ∀ x c, X.fn x = true → X.env.cells.lookup x = some c → X.s₀.heap.objs.size ≤ c
  hd : X.calm = true → X.A.handled = none
  frames : X.A.frames = some X.stack
  stk : X.stack = X.outer ∨ (X.stack = X.env :: X.outer ∧ X.env.frame = some X.env.locals)
  exf : ∀ b ∈ X.ex, b ≠ X.env.locals ∧ ∀ x c, X.env.cells.lookup x = some c → c ≠ b
  bs : ∀ b o, X.base.get? b = some o → X.s₀.heap.get? b = some o ∧ X.H₀ b = none
  bsz : X.base.objs.size ≤ X.s₀.heap.objs.size
  noex : ∀ b o, X.base.get? b = some o → b ∉ X.ex
  exfs : ∀ b ∈ X.ex, b ∉ X.fs
  funs : X.s₀.heap.FunFrames X.base X.outer
  frf : ∀ b ∈ X.fs, X.H₀ b = none

structure Inv (X : Cx) (pins : List (Addr × Obj)) (σ : List (Option V)) (H : Hp) (s : Shared) : Prop where
  ok : X.Ok
  os : s.os = X.s₀.os
  bare : AllBare s.gens
  base : Un X.fs X.ex X.H₀ H X.s₀.heap s.heap
  loc : ∃ m, s.heap.Ns X.env.locals m ∧ ∀ (i : Nat) (x : Str) (v : V), X.N[i]? = some x → σ[i]? = some (some v) → Vis X.env.scope x → ∃ u, RelV v u ∧ Look X.env s.heap m x u
  cell : ∀ x c, X.env.cells.lookup x = some c → ∃ v, s.heap.IsCell c v
  free : H X.env.locals = none
  freeC : ∀ x c, X.env.cells.lookup x = some c → H c = none
  pin : ∀ p ∈ X.pn ++ pins, s.heap.get? p.1 = some p.2 ∧ H p.1 = none ∧ p.1 ≠ X.env.locals ∧ p.1 ∉ X.fs ∧ ∀ v, p.2.data ≠ .cell v
  hok : HOk X.prog X.w H s.heap
  len : σ.length = X.N.length

section
variable {X : Cx} {pins : List (Addr × Obj)} {σ : List (Option V)} {H H' : Hp} {s : Shared} {h' : Heap}

theorem Cx.Ok.nofr (ok : X.Ok) {b : Addr} {o : Obj} (e : X.base.get? b = some o) : b ∉ X.fs := fun hb => by
  have := (ok.funs.mem hb).1
  rw [e] at this; cases this
theorem Inv.bs (I : Inv X pins σ H s) : ∀ b o, X.base.get? b = some o → s.heap.get? b = some o ∧ H b = none := fun b o e =>
  ⟨I.base.keep b o (I.ok.bs b o e).1 (I.ok.bs b o e).2 (I.ok.nofr e) (I.ok.noex b o e), I.base.free b o (I.ok.bs b o e).1 (I.ok.bs b o e).2 (I.ok.noex b o e)⟩
theorem Inv.bk (I : Inv X pins σ H s) : ∀ b o, X.base.get? b = some o → s.heap.get? b = some o := fun b o e => (I.bs b o e).1
theorem Inv.mod (I : Inv X pins σ H s) : Mod X.K X.mg X.base := I.ok.mod
theorem Inv.kIn (I : Inv X pins σ H s) : X.K.In s.heap := I.ok.mod.kin.keeps I.bk
theorem Inv.nolimit (I : Inv X pins σ H s) : s.heap.NoLimit := I.ok.mod.nolimit.keeps I.bk
/-- the frame over the base: for OpenK's rules (K.In X.base is I.mod.kin) -/
theorem Inv.fr (I : Inv X pins σ H s) : ∃ m, Fr X.base X.env.locals s.heap m :=
  let ⟨m, hn, _⟩ := I.loc
  ⟨m, hn, I.bk, Nat.le_trans I.ok.bsz I.ok.above⟩
theorem Inv.lt (I : Inv X pins σ H s) : X.env.locals < s.heap.objs.size := let ⟨_, hn, _⟩ := I.loc; hn.lt
theorem Inv.sz (I : Inv X pins σ H s) : X.s₀.heap.objs.size ≤ s.heap.objs.size := Nat.le_trans I.ok.above (Nat.le_of_lt I.lt)
theorem Inv.nofs (I : Inv X pins σ H s) {a : Addr} (h : s.heap.objs.size ≤ a) : a ∉ X.fs := fun hb => by
  obtain ⟨_, o, ho, _⟩ := I.ok.funs.mem hb
  exact absurd (Nat.lt_of_lt_of_le (Heap.lt_size ho) (Nat.le_trans I.sz h)) (Nat.lt_irrefl _)
theorem Inv.cne (I : Inv X pins σ H s) : ∀ x c, X.env.cells.lookup x = some c → c ≠ X.env.locals := fun x c e z => by
  obtain ⟨v, o, ho, hd⟩ := I.cell x c e
  obtain ⟨m, ⟨o', es, ep, ho', hd', _⟩, _⟩ := I.loc
  rw [z, ho'] at ho; cases ho; rw [hd'] at hd; cases hd
theorem Inv.funs (I : Inv X pins σ H s) : s.heap.FunFrames X.base X.outer := by
  have all : ∀ (l : List Env), (∀ b ∈ frs l, b ∈ X.fs) → X.s₀.heap.FunFrames X.base l → s.heap.FunFrames X.base l := by
    intro l
    induction l with
    | nil => intro _ _; trivial
    | cons env r ih =>
      intro hs hl
      obtain ⟨hk, ⟨L, o, hf, hn, ho, hd⟩, hr⟩ := hl
      have hL : L ∈ X.fs := hs L (by unfold frs; rw [List.filterMap_cons, hf]; exact List.mem_cons_self)
      obtain ⟨sl, e⟩ := I.base.slot L o ho (I.ok.frf L hL) hL fun z => I.ok.exfs L z hL
      exact ⟨hk, ⟨L, _, hf, hn, e, hd⟩, ih (fun b hb => hs b (by unfold frs; rw [List.filterMap_cons, hf]; exact List.mem_cons_of_mem _ hb)) hr⟩
  exact all X.outer (fun _ hb => hb) I.ok.funs

/-- the frames that run, for a call -/
theorem Inv.stack (I : Inv X pins σ H s) : s.heap.FunFrames X.base X.stack := by
  rcases I.ok.stk with e | ⟨e, hf⟩
  · rw [e]; exact I.funs
  · rw [e]
    obtain ⟨m, hn, _⟩ := I.loc
    refine .cons (by rw [I.ok.kind]; decide) hf hn ?_ I.funs
    exact Heap.get?_none_of_le (Nat.le_trans I.ok.bsz I.ok.above)
theorem Inv.stkSub (I : Inv X pins σ H s) : ∀ b ∈ frs X.stack, b ∈ X.env.locals :: X.fs := fun b hb => by
  rcases I.ok.stk with e | ⟨e, hf⟩
  · rw [e] at hb; exact List.mem_cons_of_mem _ hb
  · rw [e] at hb
    unfold frs at hb
    rw [List.filterMap_cons, hf] at hb
    exact hb
theorem Inv.stkFree (I : Inv X pins σ H s) : ∀ b ∈ frs X.stack, H b = none := fun b hb => by
  rcases List.mem_cons.mp (I.stkSub b hb) with e | hb
  · rw [e]; exact I.free
  · obtain ⟨_, o, ho, _⟩ := I.ok.funs.mem hb
    exact I.base.free b o ho (I.ok.frf b hb) fun z => I.ok.exfs b z hb

/-- THE STEP: the untracked objects but the frame and the records at ch are kept (the callers' frames up to slots), the frame's map is kept, the new abstract heap is held -/
theorem Inv.step {g' : Array GenState} {t' : Nat} {d' : Drawn} {ch : List Addr} (I : Inv X pins σ H s)
    (hch : ∀ b ∈ ch, (b ∈ X.ex ∨ X.s₀.heap.objs.size ≤ b) ∧ b ≠ X.env.locals ∧ (∀ x c, X.env.cells.lookup x = some c → c ≠ b) ∧ ∀ p ∈ X.pn ++ pins, p.1 ≠ b)
    (keep : ∀ b o, b ≠ X.env.locals → b ∉ X.fs → b ∉ ch → s.heap.get? b = some o → H b = none → h'.get? b = some o)
    (slot : ∀ b o, b ≠ X.env.locals → b ∈ X.fs → b ∉ ch → s.heap.get? b = some o → H b = none → ∃ sl, h'.get? b = some { o with slots := sl }) (free : ∀ b o, b ∉ ch → s.heap.get? b = some o → H b = none → H' b = none)
    (there : ∀ b o, b ∉ ch → s.heap.get? b = some o → ∃ o', h'.get? b = some o')
    (tups : ∀ b xs, H b = some (.tup xs) → H' b = some (.tup xs)) (frzs : ∀ b o u, H b = some (.frz o u) → H' b = some (.frz o u)) (tbls : ∀ b ps, H b = some (.tbl ps) → ∃ more, H' b = some (.tbl (ps ++ more)))
    (ns : ∀ m, s.heap.Ns X.env.locals m → h'.Ns X.env.locals m) (hok : HOk X.prog X.w H' h') (hg : AllBare g') :
    Inv X pins σ H' { s with heap := h', gens := g', drawn := d', toks := t' } := by
  have neL : ∀ b o, X.s₀.heap.get? b = some o → b ≠ X.env.locals := fun b o e => Nat.ne_of_lt (Nat.lt_of_lt_of_le (Heap.lt_size e) I.ok.above)
  have neC : ∀ b o, X.s₀.heap.get? b = some o → b ∉ X.ex → b ∉ ch := fun b o e hx hb => by
    rcases (hch b hb).1 with z | z
    · exact hx z
    · exact absurd (Nat.lt_of_lt_of_le (Heap.lt_size e) z) (Nat.lt_irrefl _)
  have cellK : ∀ x c, X.env.cells.lookup x = some c → ∀ v, s.heap.IsCell c v → h'.IsCell c v := fun x c e v ⟨o, ho, hd⟩ => by
    have nch : c ∉ ch := fun z => (hch c z).2.2.1 x c e rfl
    by_cases hc : c ∈ X.fs
    · obtain ⟨sl, q⟩ := slot c o (I.cne x c e) hc nch ho (I.freeC x c e)
      exact ⟨_, q, hd⟩
    · exact ⟨o, keep c o (I.cne x c e) hc nch ho (I.freeC x c e), hd⟩
  refine ⟨I.ok, I.os, hg, ⟨fun b o e n hb hx => ?_, fun b o e n hb hx => ?_, fun b o e n hx => ?_, fun b o e hx => ?_, fun b xs e => tups b xs (I.base.tups b xs e), fun b o xs e => frzs b o xs (I.base.frzs b o xs e), fun b ps e => ?_⟩, ?_, fun x c e => ?_, ?_, fun x c e => ?_, fun p hp => ?_, hok, I.len⟩
  · exact keep b o (neL b o e) hb (neC b o e hx) (I.base.keep b o e n hb hx) (I.base.free b o e n hx)
  · obtain ⟨sl, e1⟩ := I.base.slot b o e n hb hx
    obtain ⟨sl', e2⟩ := slot b _ (neL b o e) hb (neC b o e hx) e1 (I.base.free b o e n hx)
    exact ⟨sl', e2⟩
  · obtain ⟨o', e1⟩ := I.base.there b o e hx
    exact free b o' (neC b o e hx) e1 (I.base.free b o e n hx)
  · obtain ⟨o', e1⟩ := I.base.there b o e hx
    exact there b o' (neC b o e hx) e1
  · obtain ⟨m1, e1⟩ := I.base.tbls b ps e
    obtain ⟨m2, e2⟩ := tbls b _ e1
    exact ⟨m1 ++ m2, by rw [e2, Array.append_assoc]⟩
  · obtain ⟨m, hn, hl⟩ := I.loc
    refine ⟨m, ns m hn, fun i x v e1 e2 e3 => ?_⟩
    obtain ⟨u, r, l⟩ := hl i x v e1 e2 e3
    refine ⟨u, r, ?_⟩
    rcases l with l | ⟨k, c, e, z⟩
    · exact .inl l
    · exact .inr ⟨k, c, e, cellK x c e _ z⟩
  · obtain ⟨v, z⟩ := I.cell x c e
    exact ⟨v, cellK x c e v z⟩
  · obtain ⟨m, ⟨o, _, _, ho, _⟩, _⟩ := I.loc
    exact free _ o (fun z => (hch _ z).2.1 rfl) ho I.free
  · obtain ⟨v, o, ho, hd⟩ := I.cell x c e
    exact free c o (fun z => (hch c z).2.2.1 x c e rfl) ho (I.freeC x c e)
  · obtain ⟨e, n, ne, nf, d⟩ := I.pin p hp
    have nch : p.1 ∉ ch := fun z => (hch p.1 z).2.2.2 p hp rfl
    exact ⟨keep p.1 p.2 ne nf nch e n, free p.1 p.2 nch e n, ne, nf, d⟩
/-- .. where the frame's own object is kept too -/
theorem Inv.un {t' : Nat} (I : Inv X pins σ H s) (u : Un X.fs [] H H' s.heap h') (hok : HOk X.prog X.w H' h') : Inv X pins σ H' { s with heap := h', toks := t' } := by
  obtain ⟨m, ⟨o, es, ep, ho, r⟩, _⟩ := id I.loc
  obtain ⟨sl, hL⟩ := u.any ho I.free (by simp)
  exact I.step (g' := s.gens) (d' := s.drawn) (ch := []) (fun _ z => nomatch z) (fun b o _ hb _ e n => u.keep b o e n hb (by simp)) (fun b o _ hb _ e n => u.slot b o e n hb (by simp)) (fun b o _ e n => u.free b o e n (by simp)) (fun b o _ e => u.there b o e (by simp)) u.tups u.frzs u.tbls (fun m' hm => by
    obtain ⟨o', es', ep', ho', r'⟩ := hm
    rw [ho] at ho'; cases ho'
    exact ⟨_, es', ep', hL, r'⟩) hok I.bare
/-- behind a call (or a comprehension's block): the slots of this frame may have changed too, the records at ch may have turned -/
theorem Inv.call {g' : Array GenState} {t' : Nat} {d' : Drawn} {ch : List Addr} (I : Inv X pins σ H s) (u : Un (frs X.stack) ch H H' s.heap h') (hok : HOk X.prog X.w H' h') (hg : AllBare g')
    (hch : ∀ b ∈ ch, (b ∈ X.ex ∨ X.s₀.heap.objs.size ≤ b) ∧ b ≠ X.env.locals ∧ (∀ x c, X.env.cells.lookup x = some c → c ≠ b) ∧ ∀ p ∈ X.pn ++ pins, p.1 ≠ b) :
    Inv X pins σ H' { s with heap := h', gens := g', drawn := d', toks := t' } := by
  obtain ⟨m, ⟨o, es, ep, ho, r⟩, _⟩ := id I.loc
  obtain ⟨sl, hL⟩ := u.any ho I.free fun z => (hch _ z).2.1 rfl
  exact I.step (ch := ch) hch (fun b o hL hb hc e n => u.keep b o e n (fun z => (List.mem_cons.mp (I.stkSub b z)).elim hL hb) hc) (fun b o _ _ hc e n => u.any e n hc) (fun b o hc e n => u.free b o e n hc) (fun b o hc e => u.there b o e hc) u.tups u.frzs u.tbls (fun m' hm => by
    obtain ⟨o', es', ep', ho', r'⟩ := hm
    rw [ho] at ho'; cases ho'
    exact ⟨_, es', ep', hL, r'⟩) hok hg
/-- an untracked record of ours (an iterator) has turned -/
theorem Inv.turned {t' : Nat} {it : Addr} (I : Inv X pins σ H s) (k : ∀ b o, b ≠ it → s.heap.get? b = some o → h'.get? b = some o) (hn : H it = none) (hL : it ≠ X.env.locals)
    (h1 : it ∈ X.ex ∨ X.s₀.heap.objs.size ≤ it) (h2 : ∀ x c, X.env.cells.lookup x = some c → c ≠ it) (h3 : ∀ p ∈ X.pn ++ pins, p.1 ≠ it) : Inv X pins σ H { s with heap := h', toks := t' } := by
  have nit : ∀ b u, H b = some u → b ≠ it := fun b u e z => by rw [z, hn] at e; cases e
  refine I.step (g' := s.gens) (d' := s.drawn) (ch := [it]) (fun b hb => ?_) (fun b o _ _ hc e _ => k b o (fun z => hc (by simp [z])) e) (fun b o _ _ hc e _ => ⟨o.slots, k b o (fun z => hc (by simp [z])) e⟩) (fun _ _ _ _ n => n)
    (fun b o hc e => ⟨o, k b o (fun z => hc (by simp [z])) e⟩) (fun _ _ e => e) (fun _ _ _ e => e) (fun b ps e => ⟨#[], by rw [e]; simp⟩) (fun m hm => ?_) (fun b u e => ?_) I.bare
  · have e : b = it := by simpa using hb
    subst e
    exact ⟨h1, hL, h2, h3⟩
  · obtain ⟨o, es, ep, ho, r⟩ := hm
    exact ⟨o, es, ep, k _ o (Ne.symm hL) ho, r⟩
  · refine (I.hok b u e).stay (fun c v hc q => k c v ?_ q) (fun _ q => q) fun _ _ q => q
    rcases hc with z | z
    · rw [z]; exact nit b u e
    · exact nit c _ z
theorem Inv.tok (I : Inv X pins σ H s) (t : Nat) : Inv X pins σ H { s with toks := t } := I.un (h' := s.heap) (t' := t) Un.refl I.hok
/-- all objects kept -/
theorem Inv.kept {t' : Nat} (I : Inv X pins σ H s) (k : ∀ b u, s.heap.get? b = some u → h'.get? b = some u) : Inv X pins σ H { s with heap := h', toks := t' } := I.un (Un.kept k) (I.hok.kept k)
/-- a new object laid and tracked -/
theorem Inv.laid {a : Addr} {o : HO} {t' : Nat} (I : Inv X pins σ H s) (k : ∀ b u, s.heap.get? b = some u → h'.get? b = some u) (hp : s.heap.objs.size ≤ a) (new : ObjOk X.prog X.w (upd H a o) h' a o) :
    Inv X pins σ (upd H a o) { s with heap := h', toks := t' } := I.un (Un.laid k hp (I.hok.fresh hp)) (I.hok.laid k hp new)
/-- an object written -/
theorem Inv.write {x e : Addr} {o : HO} {t' : Nat} (I : Inv X pins σ H s) (mu : Mut (H x)) (he : e = x ∨ H e = some (.own x)) (k : ∀ b u, b ≠ e → s.heap.get? b = some u → h'.get? b = some u) (heo : ∃ u, h'.get? e = some u)
    (new : ObjOk X.prog X.w (upd H x o) h' x o) : Inv X pins σ (upd H x o) { s with heap := h', toks := t' } := I.un (Un.write mu he k heo) (I.hok.write mu he k heo new)
/-- forgetting slots, pins -/
theorem Inv.weak {σ' : List (Option V)} (I : Inv X pins σ H s) (hl : σ'.length = σ.length) (w : ∀ (i : Nat) v, σ'[i]? = some (some v) → σ[i]? = some (some v)) : Inv X pins σ' H s :=
  ⟨I.ok, I.os, I.bare, I.base, let ⟨m, hn, hl'⟩ := I.loc; ⟨m, hn, fun i x v e1 e2 e3 => hl' i x v e1 (w i v e2) e3⟩, I.cell, I.free, I.freeC, I.pin, I.hok, hl.trans I.len⟩
theorem Inv.pins_of {pins' : List (Addr × Obj)} (I : Inv X pins σ H s) (h : ∀ p ∈ pins', s.heap.get? p.1 = some p.2 ∧ H p.1 = none ∧ p.1 ≠ X.env.locals ∧ p.1 ∉ X.fs ∧ ∀ v, p.2.data ≠ .cell v) : Inv X pins' σ H s :=
  ⟨I.ok, I.os, I.bare, I.base, I.loc, I.cell, I.free, I.freeC, fun p hp => (List.mem_append.mp hp).elim (fun z => I.pin p (List.mem_append_left _ z)) (h p), I.hok, I.len⟩

theorem nodup_ix {N : List Str} (hN : N.Nodup) {i j : Nat} {x : Str} (a : N[i]? = some x) (b : N[j]? = some x) : i = j := by
  obtain ⟨h1, e1⟩ := List.getElem?_eq_some_iff.mp a
  obtain ⟨h2, e2⟩ := List.getElem?_eq_some_iff.mp b
  exact (List.getElem_inj hN).mp (e1.trans e2.symm)

/-- a name is stored; what changed -/
theorem store_ok2 {M : Model} {A : Around} {E : Value → Shared → Prop} {i : Nat} {x : Str} {v : V} {u : Value} {Q : Unit → Shared → Prop} (I : Inv X pins σ H s) (hN : X.N.Nodup) (hi : X.N[i]? = some x) (hx : Loc X.env.scope x) (r : RelV v u)
    (h : ∀ s', Inv X pins (σ.set i (some v)) H s' → (∃ a, Heap.SameBut a s.heap s'.heap ∧ (a = X.env.locals ∨ X.env.cells.lookup x = some a)) → Q () s') (hf : X.fn x = true ∨ X.env.scope.names.lookup x = some .local := by first | exact .inl rfl | exact .inr rfl | assumption) : wpAny M A (storeName X.env x u) Q E s := by
  obtain ⟨m, hn, hl⟩ := id I.loc
  have hcls : (X.env.scope.kind == .class || (X.env.scope.kind == .module && X.env.locals != X.env.globals)) = false := by rw [I.ok.kind]; rfl
  have hiσ : i < σ.length := by rw [I.len]; exact (List.getElem?_eq_some_iff.mp hi).1
  have cne := I.cne
  have tracked : ∀ {a : Addr} {h' : Heap}, (∃ o, s.heap.get? a = some o ∧ H a = none) → Heap.SameBut a s.heap h' → HOk X.prog X.w H h' := fun {a h'} ha hs b ob e => by
    obtain ⟨_, _, hfree⟩ := ha
    refine (I.hok b ob e).stay (fun c w' hc q => (hs.2 c ?_).trans q) (fun _ q => q) fun _ _ q => q
    rintro rfl
    rcases hc with rfl | hc
    · rw [hfree] at e; cases e
    · rw [hfree] at hc; cases hc
  rcases hx with hk | hk
  · refine wpAny_storeName_local hk hn (fun h' hn' hs => ?_) hcls
    obtain ⟨oL, _, _, hoL, _⟩ := id hn
    refine h _ ⟨I.ok, I.os, I.bare, ⟨fun b o e n hb hx => ?_, fun b o e n hb hx => ?_, I.base.free, fun b o e hx => ?_, I.base.tups, I.base.frzs, I.base.tbls⟩, ⟨_, hn', fun j y v' e1 e2 e3 => ?_⟩, fun y c e => ?_, I.free, I.freeC, fun p hp => ?_, tracked ⟨oL, hoL, I.free⟩ hs, by simpa using I.len⟩ ⟨_, hs, .inl rfl⟩
    · exact (hs.2 b (Nat.ne_of_lt (Nat.lt_of_lt_of_le (Heap.lt_size e) I.ok.above))).trans (I.base.keep b o e n hb hx)
    · obtain ⟨sl, e1⟩ := I.base.slot b o e n hb hx
      exact ⟨sl, (hs.2 b (Nat.ne_of_lt (Nat.lt_of_lt_of_le (Heap.lt_size e) I.ok.above))).trans e1⟩
    · obtain ⟨o', e1⟩ := I.base.there b o e hx
      exact ⟨o', (hs.2 b (Nat.ne_of_lt (Nat.lt_of_lt_of_le (Heap.lt_size e) I.ok.above))).trans e1⟩
    · by_cases hj : j = i
      · subst hj
        rw [hi] at e1; cases e1
        rw [List.getElem?_set_self hiσ] at e2
        cases e2
        exact ⟨u, r, .inl ⟨hk, by simp⟩⟩
      · rw [List.getElem?_set_ne (Ne.symm hj)] at e2
        obtain ⟨u', r', q⟩ := hl j y v' e1 e2 e3
        refine ⟨u', r', ?_⟩
        rcases q with ⟨k, e⟩ | ⟨k, c, e, z⟩
        · refine .inl ⟨k, ?_⟩
          have : y ≠ x := fun e => hj (nodup_ix hN e1 (e ▸ hi))
          simp [this, e]
        · exact .inr ⟨k, c, e, z.sameBut hs (cne y c e)⟩
    · obtain ⟨w', z⟩ := I.cell y c e
      exact ⟨w', z.sameBut hs (cne y c e)⟩
    · obtain ⟨e, n, ne, nf, d⟩ := I.pin p hp
      exact ⟨(hs.2 p.1 ne).trans e, n, ne, nf, d⟩
  · have hfn : X.fn x = true := by
      rcases hf with z | z
      · exact z
      · rw [z] at hk; cases hk
    obtain ⟨c, hc⟩ := I.ok.has x (.inl hk)
    obtain ⟨w', z⟩ := I.cell x c hc
    refine wpAny_storeName_cell I.ok.kind hk hc z (fun h' hc' hs => ?_)
    obtain ⟨oc, hoc, hocd⟩ := id z
    refine h { s with heap := h' } ⟨I.ok, I.os, I.bare, ⟨fun b o e n hb hx => ?_, fun b o e n hb hx => ?_, I.base.free, fun b o e hx => ?_, I.base.tups, I.base.frzs, I.base.tbls⟩, ⟨m, hn.sameBut hs (Ne.symm (cne x c hc)), fun j y v' e1 e2 e3 => ?_⟩, fun y c' e => ?_, I.free, I.freeC, fun p hp => ?_, tracked ⟨oc, hoc, I.freeC x c hc⟩ hs, by simpa using I.len⟩ ⟨c, hs, .inr hc⟩
    · exact (hs.2 b (Nat.ne_of_lt (Nat.lt_of_lt_of_le (Heap.lt_size e) (I.ok.cab x c hfn hc)))).trans (I.base.keep b o e n hb hx)
    · obtain ⟨sl, e1⟩ := I.base.slot b o e n hb hx
      exact ⟨sl, (hs.2 b (Nat.ne_of_lt (Nat.lt_of_lt_of_le (Heap.lt_size e) (I.ok.cab x c hfn hc)))).trans e1⟩
    · obtain ⟨o', e1⟩ := I.base.there b o e hx
      exact ⟨o', (hs.2 b (Nat.ne_of_lt (Nat.lt_of_lt_of_le (Heap.lt_size e) (I.ok.cab x c hfn hc)))).trans e1⟩
    · by_cases hj : j = i
      · subst hj
        rw [hi] at e1; cases e1
        rw [List.getElem?_set_self hiσ] at e2
        cases e2
        exact ⟨u, r, .inr ⟨.inl hk, c, hc, hc'⟩⟩
      · rw [List.getElem?_set_ne (Ne.symm hj)] at e2
        obtain ⟨u', r', q⟩ := hl j y v' e1 e2 e3
        refine ⟨u', r', ?_⟩
        rcases q with q | ⟨k, c', e, z'⟩
        · exact .inl q
        · refine .inr ⟨k, c', e, z'.sameBut hs ?_⟩
          rintro rfl
          exact hj (nodup_ix hN e1 (I.ok.inj _ _ _ e hc ▸ hi))
    · by_cases hcc : c' = c
      · subst hcc; exact ⟨_, hc'⟩
      · obtain ⟨w2, z2⟩ := I.cell y c' e
        exact ⟨w2, z2.sameBut hs hcc⟩
    · obtain ⟨e, n, ne, nf, d⟩ := I.pin p hp
      refine ⟨(hs.2 p.1 ?_).trans e, n, ne, nf, d⟩
      intro q
      rw [q, hoc] at e
      have q' : oc = p.2 := Option.some.inj e
      exact d w' (by rw [← q']; exact hocd)
theorem store_ok {M : Model} {A : Around} {E : Value → Shared → Prop} {i : Nat} {x : Str} {v : V} {u : Value} {Q : Unit → Shared → Prop} (I : Inv X pins σ H s) (hN : X.N.Nodup) (hi : X.N[i]? = some x) (hx : Loc X.env.scope x) (r : RelV v u)
    (h : ∀ s', Inv X pins (σ.set i (some v)) H s' → Q () s') (hf : X.fn x = true ∨ X.env.scope.names.lookup x = some .local := by first | exact .inl rfl | exact .inr rfl | assumption) : wpAny M A (storeName X.env x u) Q E s :=
  store_ok2 I hN hi hx r (fun s' I' _ => h s' I') hf
/-- behind a call or a block, the state as it is -/
theorem Inv.call' {s' : Shared} {ch : List Addr} (I : Inv X pins σ H s) (ho : s'.os = s.os) (u : Un (frs X.stack) ch H H' s.heap s'.heap) (hok : HOk X.prog X.w H' s'.heap) (hg : AllBare s'.gens)
    (hch : ∀ b ∈ ch, (b ∈ X.ex ∨ X.s₀.heap.objs.size ≤ b) ∧ b ≠ X.env.locals ∧ (∀ x c, X.env.cells.lookup x = some c → c ≠ b) ∧ ∀ p ∈ X.pn ++ pins, p.1 ≠ b) : Inv X pins σ H' s' := by
  obtain ⟨h', g', d', t', o'⟩ := s'
  have e : o' = s.os := ho
  subst e
  exact I.call (g' := g') (t' := t') (d' := d') u hok hg hch
end

/-! ### the judgements -/
/-- an exception: its class, its own dict's address (where it has one), the abstract heap behind it -/
abbrev XK := Value → Option Addr → Hp → Prop
abbrev St := List (Option V)
abbrev VK := V → Hp → Prop
/-- an expression's reading; a test's; an argument list's -/
abbrev TE := St → Hp → VK → Prop
abbrev TT := St → Hp → (Bool → Hp → Prop) → Prop
abbrev TA := St → Hp → (List V → Hp → Prop) → Prop
/-- what is wanted behind a statement -/
structure Ends where
  nx : St → Hp → Prop
  rt : VK
  bk : St → Hp → Prop := fun _ _ => False
  ct : St → Hp → Prop := fun _ _ => False
abbrev TS := Ends → St → Hp → Prop

def EP (X : Cx) (pins : List (Addr × Obj)) (σ : St) (Q : VK) (u : Value) (s' : Shared) : Prop := ∃ v H', Inv X pins σ H' s' ∧ RelV v u ∧ Q v H'
def TP (X : Cx) (pins : List (Addr × Obj)) (σ : St) (Q : Bool → Hp → Prop) (b : Bool) (s' : Shared) : Prop := ∃ H', Inv X pins σ H' s' ∧ Q b H'
def AP (X : Cx) (pins : List (Addr × Obj)) (σ : St) (Q : List V → Hp → Prop) (us : List Value) (s' : Shared) : Prop := ∃ vs H', Inv X pins σ H' s' ∧ Vals vs us ∧ Q vs H'
def SP (X : Cx) (pins : List (Addr × Obj)) (D : Ends) (f : Flow) (s' : Shared) : Prop :=
  match f with
  | .next => ∃ σ' H', Inv X pins σ' H' s' ∧ D.nx σ' H'
  | .brk => ∃ σ' H', Inv X pins σ' H' s' ∧ D.bk σ' H'
  | .cont => ∃ σ' H', Inv X pins σ' H' s' ∧ D.ct σ' H'
  | .ret u => ∃ v σ' H', Inv X pins σ' H' s' ∧ RelV v u ∧ D.rt v H'

def PE (X : Cx) (e : Expr) (t : TE) : Prop :=
  ∀ (pins : List (Addr × Obj)) (s : Shared) (σ : St) (H : Hp) (Q : VK), Inv X pins σ H s → t σ H Q → wpAny (model X.prog X.w) X.A (eval e X.env) (EP X pins σ Q) X.xe s
def PT (X : Cx) (e : Expr) (t : TT) : Prop :=
  ∀ (pins : List (Addr × Obj)) (s : Shared) (σ : St) (H : Hp) (Q : Bool → Hp → Prop), Inv X pins σ H s → t σ H Q → wpAny (model X.prog X.w) X.A (isTrue e X.env (eval e X.env)) (TP X pins σ Q) X.xe s
/-- a test whatever its 'whole' is (and, or) -/
def PW (X : Cx) (e : Expr) (t : TT) : Prop :=
  ∀ (whole : Sem Value) (pins : List (Addr × Obj)) (s : Shared) (σ : St) (H : Hp) (Q : Bool → Hp → Prop), Inv X pins σ H s → t σ H Q → wpAny (model X.prog X.w) X.A (isTrue e X.env whole) (TP X pins σ Q) X.xe s
theorem PW.pt {X : Cx} {e : Expr} {t : TT} (h : PW X e t) : PT X e t := h _
/-- an argument list (no star), from the left -/
def PA (X : Cx) (es : List Expr) (t : TA) : Prop :=
  ∀ (pos : Pos) (pins : List (Addr × Obj)) (s : Shared) (σ : St) (H : Hp) (Q : List V → Hp → Prop), Inv X pins σ H s → t σ H Q → wpAny (model X.prog X.w) X.A (spliced (backTo pos (starEach es X.env))) (AP X pins σ Q) X.xe s
def PS (X : Cx) (st : Stmt) (t : TS) : Prop :=
  ∀ (pins : List (Addr × Obj)) (s : Shared) (σ : St) (H : Hp) (D : Ends), Inv X pins σ H s → t D σ H → wpAny (model X.prog X.w) X.A (exec st X.env) (SP X pins D) X.xe s
def PSs (X : Cx) (st : List Stmt) (t : TS) : Prop :=
  ∀ (pins : List (Addr × Obj)) (s : Shared) (σ : St) (H : Hp) (D : Ends), Inv X pins σ H s → t D σ H → wpAny (model X.prog X.w) X.A (execs st X.env) (SP X pins D) X.xe s
/-- weaken the end -/
theorem thn {α : Type} {t : Sem α} {Q Q' : α → Shared → Prop} {M : Model} {A : Around} {E : Value → Shared → Prop} {s : Shared} (h : wpAny M A t Q E s) (hQ : ∀ a s, Q a s → Q' a s) : wpAny M A t Q' E s := wpAny_mono h hQ fun _ _ x => x
end L2

namespace L2
open PySem PySem.Spec PyProof.Rows
section
variable {X : Cx}

/-- two expressions in a row -/
theorem bin {a b : Expr} {ta tb : TE} (ha : PE X a ta) (hb : PE X b tb) {pins : List (Addr × Obj)} {s : Shared} {σ : St} {H : Hp} {R : V → V → Hp → Prop} (I : Inv X pins σ H s) (h : ta σ H fun x H1 => tb σ H1 fun y H2 => R x y H2)
    {α : Type} {Q : α → Shared → Prop} {f : Value → Value → Sem α}
    (hf : ∀ v u s2 x y H2, Inv X pins σ H2 s2 → RelV x v → RelV y u → R x y H2 → wpAny (model X.prog X.w) X.A (f v u) Q X.xe s2) :
    wpAny (model X.prog X.w) X.A (eval a X.env) (fun v s₁ => wpAny (model X.prog X.w) X.A (eval b X.env) (fun u s₂ => wpAny (model X.prog X.w) X.A (f v u) Q X.xe s₂) X.xe s₁) X.xe s := by
  refine thn (ha pins s σ H _ I h) fun v s1 ⟨x, H1, I1, r1, q1⟩ => ?_
  refine thn (hb pins s1 σ H1 _ I1 q1) fun u s2 ⟨y, H2, I2, r2, q2⟩ => ?_
  exact hf v u s2 x y H2 I2 r1 r2 q2

/-! ### names and constants -/
def tVar (i : Nat) : TE := fun σ H Q => ∃ v, σ[i]? = some (some v) ∧ Q v H
def tC (v : V) : TE := fun _ H Q => Q v H
theorem pe_var {i : Nat} {x : Str} {pos : Pos} (hN : X.N[i]? = some x) (hv : Vis X.env.scope x) (hd : (x == ("__debug__" : Str)) = false := by decide) (hcd : (x == ("__classdict__" : Str)) = false := by decide) : PE X (.Name x pos) (tVar i) := by
  intro pins s σ H Q I h
  obtain ⟨v, e, h⟩ := h
  obtain ⟨m, hn, hl⟩ := I.loc
  obtain ⟨u, r, l⟩ := hl i x v hN e hv
  have fin : EP X pins σ Q u s := ⟨v, H, I, r, h⟩
  rcases l with ⟨hk, hm⟩ | ⟨hk, c, hc, hcell⟩
  · exact wpAny_Name (wpAny_loadName_local I.ok.kind hk hn hm fin) hd
  · rcases hk with hk | hk
    · exact wpAny_Name (wpAny_loadName_cell I.ok.kind hk hc hcell fin) hd
    · exact wpAny_Name (wpAny_loadName_free I.ok.kind hk hc hcell fin hcd) hd
theorem pe_int {i j pos} : PE X (.Constant (.int i) j pos) (tC (.int i)) := fun _ _ _ H _ I h => wpAny_Constant_int ⟨.int i, H, I.tok _, ⟨_, rfl⟩, h⟩
theorem pe_bl {b j pos} : PE X (.Constant (.bool b) j pos) (tC (.bl b)) := fun _ _ _ H _ I h => Constant_bool ⟨.bl b, H, I, rfl, h⟩
theorem pe_non {j pos} : PE X (.Constant .none j pos) (tC .non) := fun _ _ _ H _ I h => Constant_none ⟨.non, H, I, rfl, h⟩
theorem pe_str {x j pos} : PE X (.Constant (.str x) j pos) (tC (.str x)) := fun _ _ _ H _ I h => Calls.Constant_str ⟨.str x, H, I.tok _, ⟨_, rfl⟩, h⟩

/-- a global name of the def -/
def Gl (X : Cx) (x : Str) : Prop := X.env.kindOf x = some .globalImplicit
theorem ld_glob {E : Value → Shared → Prop} {pins : List (Addr × Obj)} {s : Shared} {σ : St} {H : Hp} {x : Str} {u : Value} {pos : Pos} {Q : Value → Shared → Prop} (I : Inv X pins σ H s) (hg : Gl X x) (hm : X.mg x = some u) (h : Q u s)
    (hd : (x == ("__debug__" : Str)) = false := by decide) : wpAny (model X.prog X.w) X.A (eval (.Name x pos) X.env) Q E s :=
  Calls.Name_function_global I.ok.kind hg (Calls.loadGlobal_global (by rw [I.ok.glob]; exact I.mod.glob.keeps I.bk) hm h) hd
theorem ld_blt {E : Value → Shared → Prop} {pins : List (Addr × Obj)} {s : Shared} {σ : St} {H : Hp} {x : Str} {u : Value} {pos : Pos} {Q : Value → Shared → Prop} (I : Inv X pins σ H s) (hg : Gl X x) (hm : X.mg x = none) (hv : bootBuiltins x = some u) (h : Q u s)
    (hn : x ≠ "__name__" := by decide) (hd : (x == ("__debug__" : Str)) = false := by decide) : wpAny (model X.prog X.w) X.A (eval (.Name x pos) X.env) Q E s := by
  obtain ⟨mb, h1, h2⟩ := I.mod.blt
  exact Calls.Name_function_global I.ok.kind hg (Calls.loadGlobal_builtin (by rw [I.ok.glob]; exact I.mod.glob.keeps I.bk) hm (by rw [I.ok.blt]; exact h1.keeps I.bk) ((h2 x hn).trans hv) h) hd
/-- a module's constant, a class, a function, as a value -/
theorem pe_glob {x : Str} {v : V} {u : Value} {pos : Pos} (hg : Gl X x) (hm : X.mg x = some u) (r : RelV v u) (hd : (x == ("__debug__" : Str)) = false := by decide) : PE X (.Name x pos) (tC v) :=
  fun _ _ _ H _ I h => ld_glob I hg hm ⟨v, H, I, r, h⟩ hd
theorem pe_bltn {x : Str} {v : V} {u : Value} {pos : Pos} (hg : Gl X x) (hm : X.mg x = none) (hv : bootBuiltins x = some u) (r : RelV v u) (hn : x ≠ "__name__" := by decide) (hd : (x == ("__debug__" : Str)) = false := by decide) : PE X (.Name x pos) (tC v) :=
  fun _ _ _ H _ I h => ld_blt I hg hm hv ⟨v, H, I, r, h⟩ hn hd

/-! ### arithmetic -/
/-- two ints -/
def t2I (ta tb : TE) (k : Int → Int → Hp → Prop) : St → Hp → Prop := fun σ H => ta σ H fun x H1 => tb σ H1 fun y H2 => ∃ i j, x = .int i ∧ y = .int j ∧ k i j H2
def tAdd (ta tb : TE) : TE := fun σ H Q => t2I ta tb (fun i j H2 => Q (.int (i + j)) H2) σ H
def tSub (ta tb : TE) : TE := fun σ H Q => t2I ta tb (fun i j H2 => Q (.int (i - j)) H2) σ H
/-- the left factor below 2^64 -/
def tMul (ta tb : TE) : TE := fun σ H Q => t2I ta tb (fun i j H2 => (-(2 ^ 64) < i ∧ i < 2 ^ 64) ∧ Q (.int (i * j)) H2) σ H
variable {a b : Expr} {ta tb : TE} {pos : Pos}
theorem pe_add (ha : PE X a ta) (hb : PE X b tb) : PE X (.BinOp a .Add b pos) (tAdd ta tb) := by
  intro pins s σ H Q I h
  refine wpAny_BinOp (bin ha hb I h fun v u s2 x y H2 I2 rx ry q => ?_)
  obtain ⟨i, j, rfl, rfl, q⟩ := q
  obtain ⟨t, rfl⟩ := rx
  obtain ⟨t', rfl⟩ := ry
  exact add_int ⟨.int _, H2, I2.tok _, ⟨_, rfl⟩, q⟩
theorem pe_sub (ha : PE X a ta) (hb : PE X b tb) : PE X (.BinOp a .Sub b pos) (tSub ta tb) := by
  intro pins s σ H Q I h
  refine wpAny_BinOp (bin ha hb I h fun v u s2 x y H2 I2 rx ry q => ?_)
  obtain ⟨i, j, rfl, rfl, q⟩ := q
  obtain ⟨t, rfl⟩ := rx
  obtain ⟨t', rfl⟩ := ry
  exact sub_int ⟨.int _, H2, I2.tok _, ⟨_, rfl⟩, q⟩
theorem pe_mul (ha : PE X a ta) (hb : PE X b tb) : PE X (.BinOp a .Mult b pos) (tMul ta tb) := by
  intro pins s σ H Q I h
  refine wpAny_BinOp (bin ha hb I h fun v u s2 x y H2 I2 rx ry q => ?_)
  obtain ⟨i, j, rfl, rfl, ⟨q1, q2⟩, q⟩ := q
  obtain ⟨t, rfl⟩ := rx
  obtain ⟨t', rfl⟩ := ry
  exact mul_int ⟨.int _, H2, I2.tok _, ⟨_, rfl⟩, q⟩ (.of_left (intBits_le_64 q1 q2))

/-! ### comparisons -/
def PC (X : Cx) (op : CmpOp) (a b : Expr) (t : TE) : Prop :=
  ∀ (pins : List (Addr × Obj)) (s : Shared) (σ : St) (H : Hp) (Q : VK), Inv X pins σ H s → t σ H Q →
    wpAny (model X.prog X.w) X.A (eval a X.env) (fun v s₁ => wpAny (model X.prog X.w) X.A (eval b X.env) (fun u s₂ => wpAny (model X.prog X.w) X.A (compareOp op v u) (EP X pins σ Q) X.xe s₂) X.xe s₁) X.xe s
theorem nobehind (b : Expr) {op : CmpOp} (h : op ≠ .In) (h2 : op ≠ .NotIn) : behindInMarks op b = false := by
  have e1 : (op == CmpOp.In) = false := by cases op <;> first | rfl | exact absurd rfl h
  have e2 : (op == CmpOp.NotIn) = false := by cases op <;> first | rfl | exact absurd rfl h2
  cases b <;> simp [behindInMarks, e1, e2]
def tCmp (p : Int → Int → Bool) (ta tb : TE) : TE := fun σ H Q => t2I ta tb (fun i j H2 => Q (.bl (p i j)) H2) σ H
abbrev tLt : TE → TE → TE := tCmp fun i j => decide (i < j)
abbrev tLe : TE → TE → TE := tCmp fun i j => decide (i ≤ j)
abbrev tGt : TE → TE → TE := tCmp fun i j => decide (j < i)
abbrev tGe : TE → TE → TE := tCmp fun i j => decide (j ≤ i)
abbrev tEqI : TE → TE → TE := tCmp fun i j => decide (i = j)
abbrev tNeI : TE → TE → TE := tCmp fun i j => !decide (i = j)
/-- a comparison of two ints, by its rule -/
theorem pc_int {op : CmpOp} {p : Int → Int → Bool} (ha : PE X a ta) (hb : PE X b tb)
    (rule : ∀ (i j : Int) (t u : Tok) (Q : Value → Shared → Prop) (s : Shared), Q (.bool (p i j)) s → wpAny (model X.prog X.w) X.A (compareOp op (.int i t) (.int j u)) Q X.xe s) : PC X op a b (tCmp p ta tb) := by
  intro pins s σ H Q I h
  refine bin ha hb I h fun v u s2 x y H2 I2 rx ry q => ?_
  obtain ⟨i, j, rfl, rfl, q⟩ := q
  obtain ⟨t, rfl⟩ := rx
  obtain ⟨t', rfl⟩ := ry
  exact rule i j t t' _ s2 ⟨.bl _, H2, I2, rfl, q⟩
theorem pc_lt (ha : PE X a ta) (hb : PE X b tb) : PC X .Lt a b (tLt ta tb) := pc_int ha hb fun _ _ _ _ _ _ h => lt_int h
theorem pc_le (ha : PE X a ta) (hb : PE X b tb) : PC X .LtE a b (tLe ta tb) := pc_int ha hb fun _ _ _ _ _ _ h => le_int h
theorem pc_gt (ha : PE X a ta) (hb : PE X b tb) : PC X .Gt a b (tGt ta tb) := pc_int ha hb fun _ _ _ _ _ _ h => gt_int h
theorem pc_ge (ha : PE X a ta) (hb : PE X b tb) : PC X .GtE a b (tGe ta tb) := pc_int ha hb fun _ _ _ _ _ _ h => ge_int h
theorem pc_eqI (ha : PE X a ta) (hb : PE X b tb) : PC X .Eq a b (tEqI ta tb) := pc_int ha hb fun _ _ _ _ _ _ h => eq_int (by rw [Bool.beq_eq_decide_eq]; exact h)
theorem pc_neI (ha : PE X a ta) (hb : PE X b tb) : PC X .NotEq a b (tNeI ta tb) := pc_int ha hb fun _ _ _ _ _ _ h => ne_int (by rw [bne, Bool.beq_eq_decide_eq]; exact h)
/-- is None -/
def tIsN (ta : TE) : TE := fun σ H Q => ta σ H fun x H1 => Q (.bl (decide (x = .non))) H1
def tNotN (ta : TE) : TE := fun σ H Q => ta σ H fun x H1 => Q (.bl (!decide (x = .non))) H1
theorem RelV.none_iff {x : V} {v : Value} (r : RelV x v) : (v == Value.none) = decide (x = .non) := by
  cases x with
  | non => cases r; rfl
  | bl _ => cases r; rfl
  | int _ => obtain ⟨t, rfl⟩ := r; rfl
  | str _ => obtain ⟨t, rfl⟩ := r; rfl
  | byt _ => obtain ⟨t, rfl⟩ := r; rfl
  | flt _ => obtain ⟨t, rfl⟩ := r; rfl
  | ref _ => cases r; rfl
  | ty _ => cases r; rfl
theorem pc_isN {j pos'} (ha : PE X a ta) : PC X .Is a (.Constant .none j pos') (tIsN ta) := by
  intro pins s σ H Q I h
  refine thn (ha pins s σ H _ I h) fun v s1 ⟨x, H1, I1, r1, q1⟩ => ?_
  exact Constant_none (is_none_gen ⟨.bl _, H1, I1, by rw [r1.none_iff]; rfl, q1⟩)
theorem pc_notN {j pos'} (ha : PE X a ta) : PC X .IsNot a (.Constant .none j pos') (tNotN ta) := by
  intro pins s σ H Q I h
  refine thn (ha pins s σ H _ I h) fun v s1 ⟨x, H1, I1, r1, q1⟩ => ?_
  exact Constant_none (isnot_none_gen ⟨.bl _, H1, I1, by rw [r1.none_iff]; rfl, q1⟩)
/-- a comparison as a value, as a test -/
def tB (t : TE) : TT := fun σ H Q => t σ H fun x H1 => ∃ c, x = .bl c ∧ Q c H1
theorem pe_cmp {op : CmpOp} {t : TE} (h : PC X op a b t) (h1 : behindInMarks op b = false := by first | exact nobehind _ (by decide) (by decide) | rfl) : PE X (.Compare a [op] [b] pos) t := fun pins s σ H Q I hw => wpAny_Compare1 (h pins s σ H Q I hw) h1
theorem pt_cmp {op : CmpOp} {t : TE} (h : PC X op a b t) (h1 : behindInMarks op b = false := by first | exact nobehind _ (by decide) (by decide) | rfl) : PT X (.Compare a [op] [b] pos) (tB t) := by
  intro pins s σ H Q I hw
  refine wpAny_isTrue_Compare1 (thn (h pins s σ H _ I hw) fun v s1 h1 => thn h1 fun u s2 h2 => thn h2 fun c s3 ⟨x, H1, I1, r1, q1⟩ => ?_) h1
  obtain ⟨d, rfl, q⟩ := q1
  cases r1
  exact wpAny_truthy_bool ⟨H1, I1, q⟩
/-- an expression whose value is a bool, as a test -/
theorem pt_val {e : Expr} {t : TE} (h : PE X e t) (he : ∀ whole, isTrue e X.env whole = (do let v ← whole; standAt e.pos; holding [v] (truthy v)) := by intro _; rfl) : PT X e (tB t) := by
  intro pins s σ H Q I hw
  refine isTrue_plain (thn (h pins s σ H _ I hw) fun v s1 ⟨x, H1, I1, r1, q1⟩ => ?_) (he _)
  obtain ⟨d, rfl, q⟩ := q1
  cases r1
  exact wpAny_truthy_bool ⟨H1, I1, q⟩

/-! ### and, or, not -/
variable {tA tB' : TT} {rest : List Expr}
def tAnd (t u : TT) : TT := fun σ H Q => t σ H fun c H1 => if c = true then u σ H1 Q else Q false H1
def tOr (t u : TT) : TT := fun σ H Q => t σ H fun c H1 => if c = true then Q true H1 else u σ H1 Q
def tNot (t : TT) : TT := fun σ H Q => t σ H fun c H1 => Q (!c) H1
theorem pw_and1 (ha : PT X a tA) : PW X (.BoolOp .And [a] pos) tA := by
  intro wh pins s σ H Q I h
  refine isTrue_and (thn (ha pins s σ H Q I h) fun c s1 e => ?_)
  cases c with
  | true => exact isTrue_and_nil e
  | false => exact e
theorem pw_or1 (ha : PT X a tA) : PW X (.BoolOp .Or [a] pos) tA := by
  intro wh pins s σ H Q I h
  refine isTrue_or (thn (ha pins s σ H Q I h) fun c s1 e => ?_)
  cases c with
  | false => exact isTrue_or_nil e
  | true => exact e
theorem pw_and (ha : PT X a tA) (hb : PW X (.BoolOp .And (b :: rest) pos) tB') : PW X (.BoolOp .And (a :: b :: rest) pos) (tAnd tA tB') := by
  intro wh pins s σ H Q I h
  refine isTrue_and (thn (ha pins s σ H _ I h) fun c s1 ⟨H1, I1, q1⟩ => ?_)
  cases c with
  | true => exact hb wh pins s1 σ H1 Q I1 q1
  | false => exact ⟨H1, I1, q1⟩
theorem pw_or (ha : PT X a tA) (hb : PW X (.BoolOp .Or (b :: rest) pos) tB') : PW X (.BoolOp .Or (a :: b :: rest) pos) (tOr tA tB') := by
  intro wh pins s σ H Q I h
  refine isTrue_or (thn (ha pins s σ H _ I h) fun c s1 ⟨H1, I1, q1⟩ => ?_)
  cases c with
  | true => exact ⟨H1, I1, q1⟩
  | false => exact hb wh pins s1 σ H1 Q I1 q1
theorem pt_not (ha : PT X a tA) : PT X (.UnaryOp .Not a pos) (tNot tA) := by
  intro pins s σ H Q I h
  exact isTrue_not (ha pins s σ H (fun c H1 => Q (!c) H1) I h)
/-- .. as values (bools) -/
def tAndV (ta tb : TE) : TE := fun σ H Q => ta σ H fun x H1 => ∃ c, x = .bl c ∧ if c = true then tb σ H1 Q else Q (.bl false) H1
def tOrV (ta tb : TE) : TE := fun σ H Q => ta σ H fun x H1 => ∃ c, x = .bl c ∧ if c = true then Q (.bl true) H1 else tb σ H1 Q
def tNotV (ta : TE) : TE := fun σ H Q => ta σ H fun x H1 => ∃ c, x = .bl c ∧ Q (.bl (!c)) H1
theorem pe_one {op} {t : TE} (h : PE X a t) : PE X (.BoolOp op [a] pos) t := fun pins s σ H Q I hw => BoolOp_one (h pins s σ H Q I hw)
theorem pe_and (ha : PE X a ta) (hb : PE X (.BoolOp .And (b :: rest) pos) tb) : PE X (.BoolOp .And (a :: b :: rest) pos) (tAndV ta tb) := by
  intro pins s σ H Q I h
  refine BoolOp_and (thn (ha pins s σ H _ I h) fun v s1 ⟨x, H1, I1, r1, q1⟩ => ?_)
  obtain ⟨c, rfl, q1⟩ := q1
  cases r1
  refine wpAny_truthy_bool ?_
  cases c with
  | true => exact hb pins s1 σ H1 Q I1 q1
  | false => exact ⟨.bl false, H1, I1, rfl, q1⟩
theorem pe_or (ha : PE X a ta) (hb : PE X (.BoolOp .Or (b :: rest) pos) tb) : PE X (.BoolOp .Or (a :: b :: rest) pos) (tOrV ta tb) := by
  intro pins s σ H Q I h
  refine BoolOp_or (thn (ha pins s σ H _ I h) fun v s1 ⟨x, H1, I1, r1, q1⟩ => ?_)
  obtain ⟨c, rfl, q1⟩ := q1
  cases r1
  refine wpAny_truthy_bool ?_
  cases c with
  | false => exact hb pins s1 σ H1 Q I1 q1
  | true => exact ⟨.bl true, H1, I1, rfl, q1⟩
theorem pe_not (ha : PE X a ta) : PE X (.UnaryOp .Not a pos) (tNotV ta) := by
  intro pins s σ H Q I h
  refine UnaryOp_ (thn (ha pins s σ H _ I h) fun v s1 ⟨x, H1, I1, r1, q1⟩ => ?_)
  obtain ⟨c, rfl, q1⟩ := q1
  cases r1
  exact not_of (wpAny_truthy_bool ⟨.bl (!c), H1, I1, rfl, q1⟩)
/-- a if t else b -/
def tIf (t : TT) (ta tb : TE) : TE := fun σ H Q => t σ H fun c H1 => if c = true then ta σ H1 Q else tb σ H1 Q
theorem pe_ifExp {c : Expr} (hc : PT X c tA) (ha : PE X a ta) (hb : PE X b tb) : PE X (.IfExp c a b pos) (tIf tA ta tb) := by
  intro pins s σ H Q I h
  refine wpAny_IfExp (thn (hc pins s σ H _ I h) fun d s1 ⟨H1, I1, q1⟩ => ?_)
  cases d with
  | true => exact ha pins s1 σ H1 Q I1 q1
  | false => exact hb pins s1 σ H1 Q I1 q1
end
end L2

namespace L2
open PySem PySem.Spec PyProof.Rows

/-! ### a list, a tuple that is read: tracked, frozen, or an object of the module -/
def SqL (K : PySem.W.Frag) (H : Hp) (a : Addr) (xs : List V) : Prop :=
  Rd H a (.lst xs) ∨
    ∃ (o : Obj) (its : Array Value) (n : Nat), K.lookup a = some o ∧ o.cls = .type "list" ∧ o.dict = none ∧ o.data = .seq its n ∧ its.size ≤ sizeLine ∧ Vals xs its.toList
def SqT (K : PySem.W.Frag) (H : Hp) (a : Addr) (xs : List V) : Prop :=
  Rd H a (.tup xs) ∨
    ∃ (o : Obj) (its : Array Value) (n : Nat), K.lookup a = some o ∧ o.cls = .type "tuple" ∧ o.data = .seq its n ∧ its.size ≤ sizeLine ∧ Vals xs its.toList
def absV : Value → Option V
  | .none => some .non
  | .bool b => some (.bl b)
  | .int i _ => some (.int i)
  | .str x _ => some (.str x)
  | .bytes b _ => some (.byt b)
  | .float b _ => some (.flt b)
  | .ref a => some (.ref a)
  | .type n => some (.ty n)
  | _ => none
theorem RelV.abs {x : V} {u : Value} (r : RelV x u) : absV u = some x := by
  cases x with
  | non => cases r; rfl
  | bl _ => cases r; rfl
  | int _ => obtain ⟨t, rfl⟩ := r; rfl
  | str _ => obtain ⟨t, rfl⟩ := r; rfl
  | byt _ => obtain ⟨t, rfl⟩ := r; rfl
  | flt _ => obtain ⟨t, rfl⟩ := r; rfl
  | ref _ => cases r; rfl
  | ty _ => cases r; rfl
theorem RelV.inj {x y : V} {u : Value} (r : RelV x u) (q : RelV y u) : x = y := Option.some.inj (r.abs.symm.trans q.abs)
theorem Vals.inj : ∀ {xs ys : List V} {us : List Value}, Vals xs us → Vals ys us → xs = ys
  | _, _, _, .nil, .nil => rfl
  | _, _, _, .cons r t, .cons r' t' => by rw [r.inj r', Vals.inj t t']
section
variable {X : Cx} {pins : List (Addr × Obj)} {σ : St} {H : Hp} {s : Shared} {a : Addr} {xs ys : List V}
theorem SqL.of {K : PySem.W.Frag} (h : H a = some (.lst xs)) : SqL K H a xs := .inl (.inl h)
theorem SqT.of {K : PySem.W.Frag} (h : H a = some (.tup xs)) : SqT K H a xs := .inl (.inl h)
theorem Inv.list (I : Inv X pins σ H s) (h : SqL X.K H a xs) : ∃ its : List Value, Vals xs its ∧ PlainL s.heap a its.toArray ∧ xs.length ≤ sizeLine := by
  rcases h with h | ⟨o, its, n, hk, hc, hd, hs, hz, r⟩
  · obtain ⟨z, its, n, r, e⟩ := h.ok I.hok
    exact ⟨its, r, ⟨_, n, e, rfl, rfl, rfl⟩, z⟩
  · refine ⟨its.toList, r, ⟨o, n, I.kIn a o hk, hc, hd, by simpa using hs⟩, ?_⟩
    have e := r.length
    simp only [Array.length_toList] at e
    omega
theorem Inv.tuple (I : Inv X pins σ H s) (h : SqT X.K H a xs) : ∃ its : List Value, Vals xs its ∧ IsTup s.heap a its.toArray ∧ xs.length ≤ sizeLine := by
  rcases h with h | ⟨o, its, n, hk, hc, hs, hz, r⟩
  · obtain ⟨z, its, r, p⟩ := h.ok I.hok
    exact ⟨its, r, p, z⟩
  · refine ⟨its.toList, r, ⟨o, I.kIn a o hk, hc, n, by simpa using hs⟩, ?_⟩
    have e := r.length
    simp only [Array.length_toList] at e
    omega
theorem Inv.list_inj (I : Inv X pins σ H s) (h : SqL X.K H a xs) (h' : SqL X.K H a ys) : xs = ys := by
  obtain ⟨its, r, ⟨o, n, e, _, _, d⟩, _⟩ := I.list h
  obtain ⟨its', r', ⟨o', n', e', _, _, d'⟩, _⟩ := I.list h'
  rw [e] at e'; cases e'
  rw [d] at d'
  injection d' with d1 _
  have : its = its' := by simpa using congrArg Array.toList d1
  subst this
  exact r.inj r'
theorem Inv.tuple_inj (I : Inv X pins σ H s) (h : SqT X.K H a xs) (h' : SqT X.K H a ys) : xs = ys := by
  obtain ⟨its, r, ⟨o, e, _, n, d⟩, _⟩ := I.tuple h
  obtain ⟨its', r', ⟨o', e', _, n', d'⟩, _⟩ := I.tuple h'
  rw [e] at e'; cases e'
  rw [d] at d'
  injection d' with d1 _
  have : its = its' := by simpa using congrArg Array.toList d1
  subst this
  exact r.inj r'
end

/-! ### another wish about exceptions -/
abbrev Cx.wish (X : Cx) (E : Value → Shared → Prop) : Cx := { X with xe := E }
/-- no exception leaves -/
abbrev Cx.nox (X : Cx) : Cx := X.wish fun _ _ => False
theorem Cx.Ok.wish {X : Cx} (ok : X.Ok) (E : Value → Shared → Prop) : (X.wish E).Ok :=
  ⟨ok.mod, ok.kind, ok.glob, ok.blt, ok.above, ok.inj, ok.has, ok.cab, ok.hd, ok.frames, ok.stk, ok.exf, ok.bs, ok.bsz, ok.noex, ok.exfs, ok.funs, ok.frf⟩
theorem Cx.Ok.unwish {X : Cx} {E : Value → Shared → Prop} (ok : (X.wish E).Ok) : X.Ok :=
  ⟨ok.mod, ok.kind, ok.glob, ok.blt, ok.above, ok.inj, ok.has, ok.cab, ok.hd, ok.frames, ok.stk, ok.exf, ok.bs, ok.bsz, ok.noex, ok.exfs, ok.funs, ok.frf⟩
section
variable {X : Cx} {pins : List (Addr × Obj)} {σ : St} {H : Hp} {s : Shared} {E : Value → Shared → Prop}
theorem Inv.wish (I : Inv X pins σ H s) (E : Value → Shared → Prop) : Inv (X.wish E) pins σ H s := ⟨I.ok.wish E, I.os, I.bare, I.base, I.loc, I.cell, I.free, I.freeC, I.pin, I.hok, I.len⟩
theorem Inv.unwish (I : Inv (X.wish E) pins σ H s) : Inv X pins σ H s := ⟨I.ok.unwish, I.os, I.bare, I.base, I.loc, I.cell, I.free, I.freeC, I.pin, I.hok, I.len⟩
theorem SP.unwish {D : Ends} {f : Flow} {s' : Shared} (h : SP (X.wish E) pins D f s') : SP X pins D f s' := by
  cases f with
  | next => obtain ⟨σ', H', I, q⟩ := h; exact ⟨σ', H', I.unwish, q⟩
  | brk => obtain ⟨σ', H', I, q⟩ := h; exact ⟨σ', H', I.unwish, q⟩
  | cont => obtain ⟨σ', H', I, q⟩ := h; exact ⟨σ', H', I.unwish, q⟩
  | ret u => obtain ⟨v, σ', H', I, r, q⟩ := h; exact ⟨v, σ', H', I.unwish, r, q⟩
theorem PE.nox {e : Expr} {t : TE} (h : PE X.nox e t) : PE X e t := fun pins s σ H Q I hw =>
  wpAny_mono (h pins s σ H Q (I.wish _) hw) (fun _ _ ⟨v, H', I', r, q⟩ => ⟨v, H', I'.unwish, r, q⟩) fun _ _ z => False.elim z
theorem PT.nox {e : Expr} {t : TT} (h : PT X.nox e t) : PT X e t := fun pins s σ H Q I hw =>
  wpAny_mono (h pins s σ H Q (I.wish _) hw) (fun _ _ ⟨H', I', q⟩ => ⟨H', I'.unwish, q⟩) fun _ _ z => False.elim z
theorem PSs.nox {st : List Stmt} {t : TS} (h : PSs X.nox st t) : PSs X st t := fun pins s σ H D I hw =>
  wpAny_mono (h pins s σ H D (I.wish _) hw) (fun _ _ q => q.unwish) fun _ _ z => False.elim z
end

/-! ### blocks and small statements -/
section
variable {X : Cx} {st : Stmt} {rest : List Stmt} {t u : TS} {e : Expr} {te : TE} {pos : Pos}
def tNext : TS := fun D σ H => D.nx σ H
def tSeq (t u : TS) : TS := fun D σ H => t { D with nx := u D } σ H
theorem pss_nil : PSs X [] tNext := fun _ _ σ H _ I h => wpAny_execs_nil ⟨σ, H, I, h⟩
theorem pss_cons (h1 : PS X st t) (h2 : PSs X rest u) : PSs X (st :: rest) (tSeq t u) := by
  intro pins s σ H D I h
  refine wpAny_execs_cons (thn (h1 pins s σ H { D with nx := u D } I h) fun f s1 q => ?_)
  cases f with
  | next =>
    obtain ⟨σ', H', I', q⟩ := q
    exact h2 pins s1 σ' H' D I' q
  | ret v => exact q
  | brk => exact q
  | cont => exact q
theorem pss_one (h1 : PS X st t) : PSs X [st] t := by
  intro pins s σ H D I h
  refine wpAny_execs_cons (thn (h1 pins s σ H D I h) fun f s1 q => ?_)
  cases f with
  | next => exact wpAny_execs_nil q
  | ret v => exact q
  | brk => exact q
  | cont => exact q
def tBreak : TS := fun D σ H => D.bk σ H
def tCont : TS := fun D σ H => D.ct σ H
theorem ps_pass : PS X (.Pass pos) tNext := fun _ _ σ H _ I h => wpAny_Pass ⟨σ, H, I, h⟩
theorem ps_break : PS X (.Break pos) tBreak := fun _ _ σ H _ I h => wpAny_Break ⟨σ, H, I, h⟩
theorem ps_continue : PS X (.Continue pos) tCont := fun _ _ σ H _ I h => wpAny_Continue ⟨σ, H, I, h⟩
/-- in a def's body nothing is shown -/
theorem Inv.quiet {pins : List (Addr × Obj)} {σ : St} {H : Hp} {s : Shared} (I : Inv X pins σ H s) : interactive X.env = false := by simp [interactive, I.ok.kind]
/-- a docstring -/
theorem ps_doc {x j pos pos'} : PS X (.Expr (.Constant (.str x) j pos) pos') tNext := fun _ s σ H _ I h => wpAny_Expr (Calls.Constant_str (show SP X _ _ .next { s with toks := s.toks + 1 } from ⟨σ, H, I.tok _, h⟩)) I.quiet
/-- an expression whose value is dropped -/
def tDrop (te : TE) : TS := fun D σ H => te σ H fun _ H1 => D.nx σ H1
theorem ps_expr (he : PE X e te) (hs : swapsWith e none pos.line X.env = pure false := by rfl) : PS X (.Expr e pos) (tDrop te) := by
  intro pins s σ H D I h
  exact wpAny_Expr_any (thn (he pins s σ H _ I h) fun v s1 ⟨x, H1, I1, r1, q1⟩ => ⟨σ, H1, I1, q1⟩) I.quiet hs
def tRet (te : TE) : TS := fun D σ H => te σ H D.rt
theorem ps_ret (he : PE X e te) : PS X (.Return (some e) pos) (tRet te) := by
  intro pins s σ H D I h
  exact wpAny_Return_some (thn (he pins s σ H _ I h) fun v s1 ⟨x, H1, I1, r1, q1⟩ => ⟨x, σ, H1, I1, r1, q1⟩)
def tRetN : TS := fun D _ H => D.rt .non H
theorem ps_retN : PS X (.Return none pos) tRetN := fun _ _ σ H _ I h => wpAny_Return_none ⟨.non, σ, H, I, rfl, h⟩
def tIfS (c : TT) (t u : TS) : TS := fun D σ H => c σ H fun b H1 => if b = true then t D σ H1 else u D σ H1
theorem ps_if {c : Expr} {a b : List Stmt} {tc : TT} (hc : PT X c tc) (ha : PSs X a t) (hb : PSs X b u) : PS X (.If c a b pos) (tIfS tc t u) := by
  intro pins s σ H D I h
  refine wpAny_If (thn (hc pins s σ H _ I h) fun d s1 ⟨H1, I1, q1⟩ => ?_)
  cases d with
  | true => exact ha pins s1 σ H1 D I1 q1
  | false => exact hb pins s1 σ H1 D I1 q1
/-- code that the proof never comes to -/
def tNever : TS := fun _ _ _ => False
theorem ps_never : PS X st tNever := fun _ _ _ _ _ _ h => h.elim
theorem pss_never {sts : List Stmt} : PSs X sts tNever := fun _ _ _ _ _ _ h => h.elim
end

/-! ### targets -/
abbrev TG := V → St → Hp → (St → Hp → Prop) → Prop
abbrev TGs := List V → St → Hp → (St → Hp → Prop) → Prop
def PG (X : Cx) (target : Expr) (t : TG) : Prop :=
  ∀ (pins : List (Addr × Obj)) (s : Shared) (σ : St) (H : Hp) (v : V) (u : Value) (Q : St → Hp → Prop), Inv X pins σ H s → RelV v u → t v σ H Q →
    wpAny (model X.prog X.w) X.A (assign target X.env u) (fun _ s' => ∃ σ' H', Inv X pins σ' H' s' ∧ Q σ' H') X.xe s
/-- several targets, one after another -/
def PGs (X : Cx) (ts : List Expr) (t : TGs) : Prop :=
  ∀ (pins : List (Addr × Obj)) (s : Shared) (σ : St) (H : Hp) (vs : List V) (us : List Value) (Q : St → Hp → Prop), Inv X pins σ H s → Vals vs us → t vs σ H Q →
    wpAny (model X.prog X.w) X.A (assignInOrder ((assignEach ts X.env).map (·.2)) us) (fun _ s' => ∃ σ' H', Inv X pins σ' H' s' ∧ Q σ' H') X.xe s
/-- o[i] = v, by values -/
abbrev TSet := V → V → V → Hp → (Hp → Prop) → Prop
def PSet (X : Cx) (t : TSet) : Prop :=
  ∀ (pins : List (Addr × Obj)) (s : Shared) (σ : St) (H : Hp) (o i v : V) (ov iv u : Value) (Q : Hp → Prop), Inv X pins σ H s → RelV o ov → RelV i iv → RelV v u → t o i v H Q →
    wpAny (model X.prog X.w) X.A (setItem ov iv u) (fun _ s' => ∃ H', Inv X pins σ H' s' ∧ Q H') X.xe s
/-- a op= b, by values -/
abbrev TIp := V → V → Hp → VK → Prop
def PIp (X : Cx) (op : Operator) (t : TIp) : Prop :=
  ∀ (pins : List (Addr × Obj)) (s : Shared) (σ : St) (H : Hp) (x y : V) (v u : Value) (Q : VK), Inv X pins σ H s → RelV x v → RelV y u → t x y H Q →
    wpAny (model X.prog X.w) X.A (inplaceOp op v u) (EP X pins σ Q) X.xe s
section
variable {X : Cx} {pos : Pos}
def gName (i : Nat) : TG := fun v σ H Q => Q (σ.set i (some v)) H
theorem pg_name {i : Nat} {x : Str} (hN : X.N.Nodup) (hi : X.N[i]? = some x) (hx : Loc X.env.scope x) (hf : X.fn x = true ∨ X.env.scope.names.lookup x = some .local := by first | exact .inl rfl | exact .inr rfl | assumption) : PG X (.Name x pos) (gName i) := by
  intro pins s σ H v u Q I r h
  exact wpAny_assign_Name (store_ok I hN hi hx r (fun s' I' => ⟨_, H, I', h⟩) hf)
def gNil : TGs := fun vs σ H Q => vs = [] ∧ Q σ H
def gCons (t : TG) (u : TGs) : TGs := fun vs σ H Q => ∃ v r, vs = v :: r ∧ t v σ H fun σ' H' => u r σ' H' Q
theorem pgs_nil : PGs X [] gNil := by
  intro pins s σ H vs us Q I r h
  obtain ⟨e, h⟩ := h
  subst e
  cases r
  exact assignInOrder_nil ⟨σ, H, I, h⟩
theorem pgs_cons {e : Expr} {es : List Expr} {t : TG} {u : TGs} (h1 : PG X e t) (h2 : PGs X es u)
    (hs : (assignEach (e :: es) X.env).map (·.2) = assign e X.env :: (assignEach es X.env).map (·.2) := by rfl) : PGs X (e :: es) (gCons t u) := by
  intro pins s σ H vs us Q I r h
  obtain ⟨v, vr, e1, h⟩ := h
  subst e1
  cases r with
  | cons r rr =>
    rw [hs]
    refine assignInOrder_cons (thn (h1 pins s σ H _ _ _ I r h) fun _ s1 ⟨σ1, H1, I1, q1⟩ => ?_)
    exact h2 pins s1 σ1 H1 _ _ Q I1 rr q1
/-- (a, b, ..) = a tuple of that length -/
def gTup (K : PySem.W.Frag) (n : Nat) (t : TGs) : TG := fun v σ H Q => ∃ a xs, v = .ref a ∧ SqT K H a xs ∧ xs.length = n ∧ t xs σ H Q
theorem pg_tup {es : List Expr} {k : Nat} {t : TGs} {n : Nat} (hc : X.calm = true) (h : PGs X es t)
    (hn : (assignEach es X.env).length = n := by rfl) (hst : (assignEach es X.env).findIdx? (·.1) = none := by rfl) : PG X (.Tuple es k pos) (gTup X.K n t) := by
  intro pins s σ H v u Q I r hw
  obtain ⟨a, xs, e1, hq, hl, hw⟩ := hw
  subst e1
  cases r
  obtain ⟨its, rv, ht, hz⟩ := I.tuple hq
  refine assign_Tuple_tuple (I.ok.hd hc) ht (by simp [hn, ← hl, rv.length]) hst fun h' hx => ?_
  have I1 : Inv X pins σ H { s with heap := h' } := I.kept (t' := s.toks) fun b o e => hx b o (Nat.ne_of_lt (Heap.lt_size e)) e
  exact h pins _ σ H xs _ Q I1 (by simpa using rv) hw
/-- o[i] = .. -/
def gSub (to ti : TE) (t : TSet) : TG := fun v σ H Q => to σ H fun o H1 => ti σ H1 fun i H2 => t o i v H2 fun H3 => Q σ H3
theorem pg_sub {o i : Expr} {to ti : TE} {t : TSet} (ho : PE X o to) (hi : PE X i ti) (hs : PSet X t)
    (ha : ∀ v, assign (.Subscript o i pos) X.env v = (do
      let ov ← holding [v] (eval o X.env)
      let iv ← holding [v, ov] (eval i X.env)
      standAt pos
      holding [v, ov, iv] (setItem ov iv v)
      release [v, ov, iv] []) := by intro _; rfl) : PG X (.Subscript o i pos) (gSub to ti t) := by
  intro pins s σ H v u Q I r h
  rw [ha]
  refine wpAny_bind (wpAny_holding (thn (ho pins s σ H _ I h) fun ov s1 ⟨x, H1, I1, r1, q1⟩ => ?_))
  refine wpAny_bind (wpAny_holding (thn (hi pins s1 σ H1 _ I1 q1) fun iv s2 ⟨y, H2, I2, r2, q2⟩ => ?_))
  refine wpAny_bind (wpAny_standAt (wpAny_bind (wpAny_holding (thn (hs pins s2 σ H2 x y v ov iv u _ I2 r1 r2 r q2) fun _ s3 ⟨H3, I3, q3⟩ => ?_))))
  exact wpAny_release ⟨σ, H3, I3, q3⟩
/-- target = value -/
def tAsg (te : TE) (g : TG) : TS := fun D σ H => te σ H fun x H1 => g x σ H1 D.nx
theorem ps_asg {tg e : Expr} {te : TE} {g : TG} (he : PE X e te) (hg : PG X tg g) (hs : swapsWithSole [tg] e pos.line X.env = pure false := by rfl) (hw : swappedStores [tg] e X.env = pure none := by rfl)
    (h1 : (assignEach [tg] X.env).map (·.2) = [assign tg X.env] := by rfl) : PS X (.Assign [tg] e pos) (tAsg te g) := by
  intro pins s σ H D I h
  refine wpAny_Assign_stores (thn (he pins s σ H _ I h) fun v s1 ⟨x, H1, I1, r1, q1⟩ => ?_) hs hw
  rw [h1]
  exact thn (hg pins s1 σ H1 x v _ I1 r1 q1) fun _ s2 q => q
/-- name = value -/
theorem ps_set {i : Nat} {x : Str} {e : Expr} {te : TE} {pos' : Pos} (hN : X.N.Nodup) (hi : X.N[i]? = some x) (hx : Loc X.env.scope x) (he : PE X e te) (hs : swapsWith e (some (.Name x pos')) pos.line X.env = pure false := by rfl) (hf : X.fn x = true ∨ X.env.scope.names.lookup x = some .local := by first | exact .inl rfl | exact .inr rfl | assumption) :
    PS X (.Assign [.Name x pos'] e pos) (tAsg te (gName i)) := by
  intro pins s σ H D I h
  refine wpAny_Assign_Name (thn (he pins s σ H _ I h) fun v s1 ⟨y, H1, I1, r1, q1⟩ => ?_) hs
  exact store_ok I1 hN hi hx r1 (fun s2 I2 => ⟨_, H1, I2, q1⟩) hf
/-- a, b = x, y with plain local names: stored from the right; the pair itself is not tracked (the opening rows as in PyProof/Rows/TupAssign.lean:23) -/
def tPar (i j : Nat) (ta : TA) : TS := fun D σ H => ta σ H fun vs H1 => ∃ v w, vs = [v, w] ∧ D.nx ((σ.set i (some v)).set j (some w)) H1
theorem ps_par {i j : Nat} {x y : Str} {a b : Expr} {ta : TA} {px py pt : Pos} {kt k2 pt2} (hc : X.calm = true) (hN : X.N.Nodup) (hi : X.N[i]? = some x) (hj : X.N[j]? = some y) (hij : i ≠ j)
    (hx : X.env.scope.names.lookup x = some .local) (hy : X.env.scope.names.lookup y = some .local) (ha : PA X [a, b] ta)
    (hw : swappedStores [.Tuple [.Name x px, .Name y py] kt pt] (.Tuple [a, b] k2 pt2) X.env = pure (some [x, y]))
    (hs : swapsWithSole [.Tuple [.Name x px, .Name y py] kt pt] (.Tuple [a, b] k2 pt2) pos.line X.env = pure false := by rfl) :
    PS X (.Assign [.Tuple [.Name x px, .Name y py] kt pt] (.Tuple [a, b] k2 pt2) pos) (tPar i j ta) := by
  intro pins s σ H D I h
  rw [exec_Assign_arm]
  refine wpAny_bind (wpAny_standAt ?_)
  rw [hs]
  refine wpAny_bind (wpAny_pure ?_)
  rw [if_neg (by decide)]
  refine wpAny_bind (Tuple_ (thn (ha _ pins s σ H _ I h) fun us s1 ⟨vs, H1, I1, r1, q1⟩ => ?_))
  obtain ⟨v, w, e1, q1⟩ := q1
  subst e1
  obtain ⟨u1, u2, rfl, rv, rw'⟩ : ∃ u1 u2, us = [u1, u2] ∧ RelV v u1 ∧ RelV w u2 := by
    cases r1 with
    | cons p q =>
      cases q with
      | cons p' q' =>
        cases q'
        exact ⟨_, _, rfl, p, p'⟩
  refine wpAny_newObj_type ?_ (by show 2 ≤ sizeLine; decide)
  have I2 : Inv X pins σ H1 { s1 with heap := s1.heap.push { cls := .type "tuple", data := .seq [u1, u2].toArray } } := I1.kept (t' := s1.toks) fun b o e => Heap.get?_push_of_some _ e
  rw [hw]
  refine wpAny_bind (wpAny_pure ?_)
  show wpAny (model X.prog X.w) X.A (do rule "assign.swapped-stores"; let items ← unpackItems (.ref s1.heap.objs.size) 2 none; assignInOrder [fun v => bindName X.env y v, fun v => bindName X.env x v] items.reverse; pure Flow.next) _ _ _
  refine wpAny_bind (wpAny_rule (wpAny_bind (unpackItems_tuple (items := #[u1, u2]) (I.ok.hd hc) (IsTup.new s1.heap _) fun h' hx' => ?_)))
  have I3 := I2.kept (h' := h') (t' := s1.toks) fun b o e => hx' b o (Nat.ne_of_lt (Heap.lt_size e)) e
  show wpAny _ _ (assignInOrder [fun v => bindName X.env y v, fun v => bindName X.env x v] [u2, u1] >>= fun _ => pure Flow.next) _ _ _
  refine wpAny_bind (assignInOrder_cons (wpAny_bindName (store_ok I3 hN hj (.inl hy) rw' (fun s2 I4 => ?_) (.inr hy))))
  refine assignInOrder_cons (wpAny_bindName (store_ok I4 hN hi (.inl hx) rv (fun s3 I5 => assignInOrder_nil (wpAny_pure ?_)) (.inr hx)))
  rw [List.set_comm _ _ (Ne.symm hij)] at I5
  exact ⟨_, H1, I5, q1⟩
/-- name op= e -/
def tAug (i : Nat) (te : TE) (ti : TIp) : TS := fun D σ H => ∃ x, σ[i]? = some (some x) ∧ te σ H fun y H1 => ti x y H1 fun z H2 => D.nx (σ.set i (some z)) H2
theorem ps_aug {i : Nat} {x : Str} {e : Expr} {te : TE} {op : Operator} {ti : TIp} {pos' : Pos} (hN : X.N.Nodup) (hi : X.N[i]? = some x) (hx : Loc X.env.scope x) (he : PE X e te) (ho : PIp X op ti) (hf : X.fn x = true ∨ X.env.scope.names.lookup x = some .local := by first | exact .inl rfl | exact .inr rfl | assumption) :
    PS X (.AugAssign (.Name x pos') op e pos) (tAug i te ti) := by
  intro pins s σ H D I h
  obtain ⟨v, e1, h⟩ := h
  obtain ⟨m, hn, hl⟩ := I.loc
  have vis : Vis X.env.scope x := by rcases hx with k | k; exact .inl k; exact .inr (.inl k)
  obtain ⟨u, r, l⟩ := hl i x v hi e1 vis
  refine wpAny_AugAssign_Name ?_
  have go : wpAny (model X.prog X.w) X.A (eval e X.env) (fun w s₂ => wpAny (model X.prog X.w) X.A (inplaceOp op u w) (fun r s₃ => wpAny (model X.prog X.w) X.A (storeName X.env x r) (fun _ => SP X pins D .next) X.xe s₃) X.xe s₂) X.xe s := by
    refine thn (he pins s σ H _ I h) fun w s1 ⟨y, H1, I1, r1, q1⟩ => ?_
    refine thn (ho pins s1 σ H1 v y u w _ I1 r r1 q1) fun z s2 ⟨zv, H2, I2, r2, q2⟩ => ?_
    exact store_ok I2 hN hi hx r2 (fun s3 I3 => ⟨_, H2, I3, q2⟩) hf
  rcases l with ⟨hk, hm⟩ | ⟨hk, c, hc, hcell⟩
  · exact wpAny_loadName_local I.ok.kind hk hn hm go
  · rcases hk with hk | hk
    · exact wpAny_loadName_cell I.ok.kind hk hc hcell go
    · rcases hx with k | k
      · have : X.env.scope.names.lookup x = some .free := hk
        rw [k] at this; cases this
      · have : X.env.scope.names.lookup x = some .free := hk
        rw [k] at this; cases this
/-- o[i] op= e -/
def tAugS (to ti te : TE) (tget : V → V → Hp → VK → Prop) (tip : TIp) (tset : TSet) : TS := fun D σ H => to σ H fun o H1 => ti σ H1 fun i H2 => tget o i H2 fun x H3 => te σ H3 fun y H4 => tip x y H4 fun z H5 => tset o i z H5 fun H6 => D.nx σ H6
/-- o[i], by values -/
def PGet (X : Cx) (t : V → V → Hp → VK → Prop) : Prop :=
  ∀ (pins : List (Addr × Obj)) (s : Shared) (σ : St) (H : Hp) (o i : V) (ov iv : Value) (Q : VK), Inv X pins σ H s → RelV o ov → RelV i iv → t o i H Q →
    wpAny (model X.prog X.w) X.A (getItem ov iv) (EP X pins σ Q) X.xe s
theorem ps_augS {o i e : Expr} {to ti te : TE} {tget : V → V → Hp → VK → Prop} {tip : TIp} {tset : TSet} {op : Operator} {tpos : Pos} (ho : PE X o to) (hi : PE X i ti) (hg : PGet X tget) (he : PE X e te) (hp : PIp X op tip) (hs : PSet X tset)
    (ha : ∀ ov iv new, augStore i ov iv new = (do holding [new, ov, iv] (setItem ov iv new); release [new, ov, iv] []; pure .next) := by intros; rfl) : PS X (.AugAssign (.Subscript o i tpos) op e pos) (tAugS to ti te tget tip tset) := by
  intro pins s σ H D I h
  refine wpAny_AugAssign_SubscriptAny (thn (ho pins s σ H _ I h) fun ov s1 ⟨x1, H1, I1, r1, q1⟩ => ?_) ha
  refine thn (hi pins s1 σ H1 _ I1 q1) fun iv s2 ⟨x2, H2, I2, r2, q2⟩ => ?_
  refine thn (hg pins s2 σ H2 x1 x2 ov iv _ I2 r1 r2 q2) fun old s3 ⟨x3, H3, I3, r3, q3⟩ => ?_
  refine thn (he pins s3 σ H3 _ I3 q3) fun v s4 ⟨x4, H4, I4, r4, q4⟩ => ?_
  refine thn (hp pins s4 σ H4 x3 x4 old v _ I4 r3 r4 q4) fun new s5 ⟨x5, H5, I5, r5, q5⟩ => ?_
  exact thn (hs pins s5 σ H5 x1 x2 x5 ov iv new _ I5 r1 r2 r5 q5) fun _ s6 ⟨H6, I6, q6⟩ => ⟨σ, H6, I6, q6⟩
/-- ints -/
def ipI (f : Int → Int → Int) : TIp := fun x y H Q => ∃ i j, x = .int i ∧ y = .int j ∧ Q (.int (f i j)) H
theorem ip_add : PIp X .Add (ipI fun i j => i + j) := by
  intro pins s σ H x y v u Q I r1 r2 h
  obtain ⟨i, j, e1, e2, q⟩ := h
  subst e1; subst e2
  obtain ⟨t, rfl⟩ := r1
  obtain ⟨t', rfl⟩ := r2
  exact iadd_int ⟨.int _, H, I.tok _, ⟨_, rfl⟩, q⟩
theorem ip_sub : PIp X .Sub (ipI fun i j => i - j) := by
  intro pins s σ H x y v u Q I r1 r2 h
  obtain ⟨i, j, e1, e2, q⟩ := h
  subst e1; subst e2
  obtain ⟨t, rfl⟩ := r1
  obtain ⟨t', rfl⟩ := r2
  exact isub_int ⟨.int _, H, I.tok _, ⟨_, rfl⟩, q⟩
end

/-! ### while -/
section
variable {X : Cx} {pos : Pos}
/-- the invariant W with its measure -/
def tWhile (c : TT) (tb : TS) : TS := fun D σ H => ∃ W : Nat → St → Hp → Prop, (∃ m, W m σ H) ∧ ∀ m σ H, W m σ H →
  c σ H fun b H1 => if b = true then ∃ N : St → Hp → Prop, (∀ σ' H', N σ' H' → ∃ m', m' < m ∧ W m' σ' H') ∧ tb { D with nx := N, ct := N, bk := D.nx } σ H1 else D.nx σ H1
theorem ps_while {c : Expr} {body : List Stmt} {tc : TT} {tb : TS} (hp : PassesOwn (model X.prog X.w) X.A X.env X.xe) (hc : PT X c tc) (hb : PSs X body tb) : PS X (.While c body [] pos) (tWhile tc tb) := by
  intro pins s σ H D I h
  obtain ⟨W, ⟨m0, w0⟩, turn⟩ := h
  refine wpAny_While (codeAny_whileLoop (fun n s' => ∃ σ' H', Inv X pins σ' H' s' ∧ W n σ' H') ?_ m0 ⟨σ, H, I, w0⟩)
  rintro n s1 ⟨σ1, H1, I1, w1⟩
  refine wpAny_passesOwn hp (thn (hc pins s1 σ1 H1 _ I1 (turn n σ1 H1 w1)) fun b s2 ⟨H2, I2, q2⟩ => ?_)
  cases b with
  | true =>
    obtain ⟨N, hN, q2⟩ := q2
    rw [if_pos rfl]
    refine wpAny_passesOwn hp (thn (hb pins s2 σ1 H2 _ I2 q2) fun f s3 q3 => ?_)
    cases f with
    | next =>
      obtain ⟨σ3, H3, I3, n3⟩ := q3
      obtain ⟨m', hm, w3⟩ := hN σ3 H3 n3
      exact ⟨m', hm, σ3, H3, I3, w3⟩
    | cont =>
      obtain ⟨σ3, H3, I3, n3⟩ := q3
      obtain ⟨m', hm, w3⟩ := hN σ3 H3 n3
      exact ⟨m', hm, σ3, H3, I3, w3⟩
    | brk => exact q3
    | ret v => exact q3
  | false =>
    rw [if_neg Bool.false_ne_true]
    exact wpAny_execs_nil ⟨σ1, H2, I2, q2⟩
end

/-! ### what a loop or a comprehension walks -/
/-- at turn i: it yields x (the heap may grow), or it stops -/
structure It where
  go : Nat → Hp → Prop
  yld : Nat → Hp → V → Hp → Prop
  stop : Nat → Hp → Prop
/-- the iterator's own objects may turn: they are not the frame's, not pinned, younger than the entry (or a comprehension's own) -/
def FpOk (X : Cx) (pins : List (Addr × Obj)) (H : Hp) (b : Addr) : Prop :=
  H b = none ∧ b ≠ X.env.locals ∧ b ∉ X.fs ∧ (b ∈ X.ex ∨ X.s₀.heap.objs.size ≤ b) ∧ (∀ x c, X.env.cells.lookup x = some c → c ≠ b) ∧ ∀ p ∈ X.pn ++ pins, p.1 ≠ b
theorem Inv.fpOk {X : Cx} {pins : List (Addr × Obj)} {σ : St} {H H' : Hp} {s : Shared} {b : Addr} (I : Inv X pins σ H s) (hb : s.heap.objs.size ≤ b) (hn : H' b = none) : FpOk X pins H' b := by
  refine ⟨hn, Nat.ne_of_gt (Nat.lt_of_lt_of_le I.lt hb), I.nofs hb, .inr (Nat.le_trans I.sz hb), fun x c e z => ?_, fun p hp z => ?_⟩
  · obtain ⟨v, q⟩ := I.cell x c e
    exact absurd (Nat.lt_of_lt_of_le q.lt (by rw [z]; exact hb)) (Nat.lt_irrefl _)
  · exact absurd (Nat.lt_of_lt_of_le (Heap.lt_size (I.pin p hp).1) (by rw [z]; exact hb)) (Nat.lt_irrefl _)
structure Turn (P : Program) (w : World) (K : PySem.W.Frag) (tg : Expr) (J : It) (fp : List Addr) (it : Addr) (tn : Nat → Heap → Prop) : Prop where
  mem : it ∈ fp
  obj : ∀ i h, tn i h → ∀ b ∈ fp, ∃ o, h.get? b = some o ∧ ∀ v, o.data ≠ .cell v
  keep : ∀ i h h', tn i h → (∀ b ∈ fp, ∀ o, h.get? b = some o → h'.get? b = some o) → tn i h'
  item : ∀ (X : Cx), X.prog = P → X.w = w → X.K = K → X.calm = true → ∀ (i : Nat) (pins : List (Addr × Obj)) (s : Shared) (σ : St) (H : Hp) (E : Value → Shared → Prop), Inv X pins σ H s → (∀ b ∈ fp, FpOk X pins H b) → tn i s.heap → J.go i H →
    wpAny (model P w) X.A (pyNext (.ref it)) (fun r s1 => ∃ u, r = some u ∧
      wpAny (model P w) X.A (letOwnedTupleGo tg (.ref it) u) (fun _ s2 => ∃ x H', Inv X pins σ H' s2 ∧ RelV x u ∧ J.yld i H x H' ∧ tn (i + 1) s2.heap ∧ ∀ b ∈ fp, H' b = none) E s1) E s
  done : ∀ (X : Cx), X.prog = P → X.w = w → X.K = K → X.calm = true → ∀ (i : Nat) (pins : List (Addr × Obj)) (s : Shared) (σ : St) (H : Hp) (E : Value → Shared → Prop), Inv X pins σ H s → (∀ b ∈ fp, FpOk X pins H b) → tn i s.heap → J.stop i H →
    wpAny (model P w) X.A (pyNext (.ref it)) (fun r s1 => r = none ∧ Inv X pins σ H s1) E s
  self : ∀ (A : Around) (i : Nat) (s : Shared) (Q : Value → Shared → Prop) (E : Value → Shared → Prop), tn i s.heap → Q (.ref it) s → wpAny (model P w) A (pyIter (.ref it)) Q E s
abbrev TI := St → Hp → (It → Hp → Prop) → Prop
/-- an iterator has come -/
def PIE (X : Cx) (pins : List (Addr × Obj)) (σ : St) (tg : Expr) (R : It → Hp → Prop) (itv : Value) (s2 : Shared) : Prop :=
  ∃ (it : Addr) (fp : List Addr) (tn : Nat → Heap → Prop) (J : It) (H' : Hp), itv = .ref it ∧ Inv X pins σ H' s2 ∧ Turn X.prog X.w X.K tg J fp it tn ∧ tn 0 s2.heap ∧ (∀ b ∈ fp, FpOk X pins H' b) ∧ R J H'
def PI (X : Cx) (tg iter : Expr) (wi : TI) : Prop :=
  ∀ (pins : List (Addr × Obj)) (s : Shared) (σ : St) (H : Hp) (R : It → Hp → Prop), Inv X pins σ H s → wi σ H R →
    wpAny (model X.prog X.w) X.A (eval iter X.env) (fun v s1 => wpAny (model X.prog X.w) X.A (pyIter v) (PIE X pins σ tg R) X.xe s1) X.xe s

/-- the step ahead of the store is nothing for an iterator that keeps no tuple -/
theorem go_of {M : Model} {A : Around} {E : Value → Shared → Prop} {s : Shared} {tg : Expr} {it : Addr} {u : Value} {o : Obj} {n : String} {vs : Array Value} {Q : Unit → Shared → Prop} (ho : s.heap.get? it = some o) (hc : o.cls = .type n) (hd : o.data = .fields vs)
    (hn : ["enumerate", "zip", "dict_itemiterator", "dict_reverseitemiterator", "odict_iterator", "itertools.zip_longest", "itertools.pairwise"].contains n = false) (hQ : Q () s) : wpAny M A (letOwnedTupleGo tg (.ref it) u) Q E s := by
  unfold letOwnedTupleGo
  cases tg <;> first
    | exact wpAny_pure hQ
    | (cases u <;> first
        | exact wpAny_pure hQ
        | (refine wpAny_bind (wpAny_load ho ?_)
           rw [hc, hd]
           show wpAny M A (if (["enumerate", "zip", "dict_itemiterator", "dict_reverseitemiterator", "odict_iterator", "itertools.zip_longest", "itertools.pairwise"].contains n && vs[0]? == some (rawInt _)) = true then _ else _) Q E s
           rw [if_neg (by intro h; rw [hn, Bool.false_and] at h; cases h)]
           exact wpAny_pure hQ))

/-- the list at a, as it stands at each turn (a loop may append to it) -/
def Itl (K : PySem.W.Frag) (a : Addr) : It :=
  ⟨fun i H => ∃ xs x, SqL K H a xs ∧ xs[i]? = some x, fun i H x H' => H' = H ∧ ∀ xs, SqL K H a xs → xs[i]? = some x, fun i H => ∃ xs, SqL K H a xs ∧ xs.length ≤ i⟩
def Itt (K : PySem.W.Frag) (a : Addr) : It :=
  ⟨fun i H => ∃ xs x, SqT K H a xs ∧ xs[i]? = some x, fun i H x H' => H' = H ∧ ∀ xs, SqT K H a xs → xs[i]? = some x, fun i H => ∃ xs, SqT K H a xs ∧ xs.length ≤ i⟩
/-- lo, lo + 1, .. (n of them) -/
def Itr (lo : Int) (n : Nat) : It := ⟨fun i _ => i < n, fun i H x H' => H' = H ∧ x = .int (lo + i), fun i _ => n ≤ i⟩
theorem turn_list {P : Program} {w : World} {K : PySem.W.Frag} {tg : Expr} (a it : Addr) : Turn P w K tg (Itl K a) [it] it (fun i h => h.IsListIter it a i) where
  mem := by simp
  obj := fun i h st b hb => by
    have e : b = it := by simpa using hb
    subst e
    obtain ⟨o, e, c, d⟩ := st
    exact ⟨o, e, fun v z => by rw [d] at z; cases z⟩
  keep := fun i h h' st k => st.at fun o e => k it (by simp) o e
  item := by
    intro X hP hw hK hc i pins s σ H E I hf st hg
    subst hP hw hK
    obtain ⟨xs, x, hq, hx⟩ := hg
    obtain ⟨its, rv, p, hz⟩ := I.list hq
    obtain ⟨u, hu, ru⟩ := rv.get hx
    obtain ⟨f0, f1, f2, f3, f4, f5⟩ := hf it (by simp)
    refine wpAny_pyNext_list_item st p.isList (x := u) (by simpa using hu) fun h' st' sb => ?_
    have I1 : Inv X pins σ H { s with heap := h' } := I.turned (t' := s.toks) (fun b o hb e => (sb.2 b hb).trans e) f0 f1 f3 f4 f5
    obtain ⟨o, e, c, d⟩ := id st'
    exact ⟨u, rfl, go_of (s := { s with heap := h' }) e c d (by decide) ⟨x, H, I1, ru, ⟨rfl, fun ys hy => by rw [I.list_inj hy hq]; exact hx⟩, st', fun b hb => (hf b hb).1⟩⟩
  done := by
    intro X hP hw hK hc i pins s σ H E I hf st hg
    subst hP hw hK
    obtain ⟨xs, hq, hx⟩ := hg
    obtain ⟨its, rv, p, hz⟩ := I.list hq
    obtain ⟨f0, f1, f2, f3, f4, f5⟩ := hf it (by simp)
    have hl := rv.length
    exact wpAny_pyNext_list_end (I.ok.hd hc) st p.isList (by simp; omega) fun h' eb => ⟨rfl, I.turned (t' := s.toks) (fun b o hb e => eb b o hb e) f0 f1 f3 f4 f5⟩
  self := fun _ _ _ _ _ st h => wpAny_pyIter_listiter st h
theorem turn_tuple {P : Program} {w : World} {K : PySem.W.Frag} {tg : Expr} (a it : Addr) : Turn P w K tg (Itt K a) [it] it (fun i h => h.IsTupleIter it a i) where
  mem := by simp
  obj := fun i h st b hb => by
    have e : b = it := by simpa using hb
    subst e
    obtain ⟨o, e, c, d⟩ := st
    exact ⟨o, e, fun v z => by rw [d] at z; cases z⟩
  keep := fun i h h' st k => st.at fun o e => k it (by simp) o e
  item := by
    intro X hP hw hK hc i pins s σ H E I hf st hg
    subst hP hw hK
    obtain ⟨xs, x, hq, hx⟩ := hg
    obtain ⟨its, rv, p, hz⟩ := I.tuple hq
    obtain ⟨u, hu, ru⟩ := rv.get hx
    obtain ⟨f0, f1, f2, f3, f4, f5⟩ := hf it (by simp)
    refine wpAny_pyNext_tuple_item st (show s.heap.IsTuple a its.toArray from p) (x := u) (by simpa using hu) fun h' st' sb => ?_
    have I1 : Inv X pins σ H { s with heap := h' } := I.turned (t' := s.toks) (fun b o hb e => (sb.2 b hb).trans e) f0 f1 f3 f4 f5
    obtain ⟨o, e, c, d⟩ := id st'
    exact ⟨u, rfl, go_of (s := { s with heap := h' }) e c d (by decide) ⟨x, H, I1, ru, ⟨rfl, fun ys hy => by rw [I.tuple_inj hy hq]; exact hx⟩, st', fun b hb => (hf b hb).1⟩⟩
  done := by
    intro X hP hw hK hc i pins s σ H E I hf st hg
    subst hP hw hK
    obtain ⟨xs, hq, hx⟩ := hg
    obtain ⟨its, rv, p, hz⟩ := I.tuple hq
    obtain ⟨f0, f1, f2, f3, f4, f5⟩ := hf it (by simp)
    have hl := rv.length
    exact wpAny_pyNext_tuple_end (I.ok.hd hc) st (show s.heap.IsTuple a its.toArray from p) (by simp; omega) fun h' eb => ⟨rfl, I.turned (t' := s.toks) (fun b o hb e => eb b o hb e) f0 f1 f3 f4 f5⟩
  self := fun _ _ _ _ _ st h => wpAny_pyIter_tupleiter st h
theorem turn_range {P : Program} {w : World} {K : PySem.W.Frag} {tg : Expr} (it : Addr) (lo : Int) (n : Nat) : Turn P w K tg (Itr lo n) [it] it (fun i h => IsRangeIter h it (lo + (i : Nat) * 1) ((n : Int) - (i : Nat)) 1) where
  mem := by simp
  obj := fun i h st b hb => by
    have e : b = it := by simpa using hb
    subst e
    exact ⟨_, st, fun v z => by
      have z' : Data.fields _ = Data.cell v := z
      cases z'⟩
  keep := fun i h h' st k => k it (by simp) _ st
  item := by
    intro X hP hw hK hc i pins s σ H E I hf st hg
    subst hP hw hK
    obtain ⟨f0, f1, f2, f3, f4, f5⟩ := hf it (by simp)
    have W := Walks.range (prog := X.prog) (w := X.w) (I.ok.hd hc) it lo 1 n
    refine W.item i s _ _ hg st fun v h' tk hv st' kk => ?_
    obtain ⟨t, rfl⟩ := hv
    have I1 : Inv X pins σ H { s with heap := h', toks := tk } := I.turned (fun b o hb e => kk b o (by simpa using hb) e) f0 f1 f3 f4 f5
    refine ⟨_, rfl, go_of (s := { s with heap := h', toks := tk }) (n := "range_iterator") st' rfl rfl (by decide) ⟨.int (lo + i), H, I1, ⟨t, ?_⟩, ⟨rfl, rfl⟩, st', fun b hb => (hf b hb).1⟩⟩
    rw [Int.mul_one]
  done := by
    intro X hP hw hK hc i pins s σ H E I hf st hg
    subst hP hw hK
    obtain ⟨f0, f1, f2, f3, f4, f5⟩ := hf it (by simp)
    exact wpAny_pyNext_range_end (I.ok.hd hc) st (by have : n ≤ i := hg; omega) fun h' eb => ⟨rfl, I.turned (t' := s.toks) (fun b o hb e => eb b o hb e) f0 f1 f3 f4 f5⟩
  self := fun _ _ _ _ _ st h => wpAny_pyIter_rangeiter st h
end L2

namespace L2
open PySem PySem.Spec PyProof.Rows
section
variable {X : Cx} {tg : Expr}
def iList (K : PySem.W.Frag) (tl : TE) : TI := fun σ H R => tl σ H fun x H1 => ∃ a, x = .ref a ∧ (∃ xs, SqL K H1 a xs) ∧ R (Itl K a) H1
def iTup (K : PySem.W.Frag) (tl : TE) : TI := fun σ H R => tl σ H fun x H1 => ∃ a, x = .ref a ∧ (∃ xs, SqT K H1 a xs) ∧ R (Itt K a) H1
theorem pi_list {l : Expr} {tl : TE} (hl : PE X l tl) : PI X tg l (iList X.K tl) := by
  intro pins s σ H R I h
  refine thn (hl pins s σ H _ I h) fun v s1 ⟨x, H1, I1, r1, q1⟩ => ?_
  obtain ⟨a, e, ⟨xs, hq⟩, q⟩ := q1
  subst e
  cases r1
  obtain ⟨its, rv, p, hz⟩ := I1.list hq
  refine wpAny_pyIter_list p.isList ?_
  refine ⟨s1.heap.objs.size, [s1.heap.objs.size], _, _, H1, rfl, I1.kept (t' := s1.toks) fun b o e => Heap.get?_push_of_some _ e, turn_list a _, ⟨_, Heap.get?_push_size _ rfl, rfl, rfl⟩, fun b hb => ?_, q⟩
  have e : b = s1.heap.objs.size := by simpa using hb
  subst e
  exact I1.fpOk (Nat.le_refl _) (I1.hok.fresh (Nat.le_refl _))
theorem pi_tup {l : Expr} {tl : TE} (hl : PE X l tl) : PI X tg l (iTup X.K tl) := by
  intro pins s σ H R I h
  refine thn (hl pins s σ H _ I h) fun v s1 ⟨x, H1, I1, r1, q1⟩ => ?_
  obtain ⟨a, e, ⟨xs, hq⟩, q⟩ := q1
  subst e
  cases r1
  obtain ⟨its, rv, p, hz⟩ := I1.tuple hq
  refine wpAny_pyIter_tuple (show s1.heap.IsTuple a its.toArray from p) ?_
  refine ⟨s1.heap.objs.size, [s1.heap.objs.size], _, _, H1, rfl, I1.kept (t' := s1.toks) fun b o e => Heap.get?_push_of_some _ e, turn_tuple a _, ⟨_, Heap.get?_push_size _ rfl, rfl, rfl⟩, fun b hb => ?_, q⟩
  have e : b = s1.heap.objs.size := by simpa using hb
  subst e
  exact I1.fpOk (Nat.le_refl _) (I1.hok.fresh (Nat.le_refl _))
/-- a range object just made, walked -/
theorem range_it {pins : List (Addr × Obj)} {σ : St} {H : Hp} {s : Shared} {R : It → Hp → Prop} {E : Value → Shared → Prop} {lo hi : Int} {t u v : Tok} {tk : Nat} (I : Inv X pins σ H s) (h1 : -(2 ^ 62) ≤ lo) (h2 : lo < 2 ^ 62) (h3 : -(2 ^ 62) ≤ hi) (h4 : hi < 2 ^ 62)
    (q : R (Itr lo (hi - lo).toNat) H) : wpAny (model X.prog X.w) X.A (pyIter (.ref s.heap.objs.size)) (PIE X pins σ tg R) E { s with heap := s.heap.push { cls := .type "range", data := .fields #[.int lo t, .int hi u, .int 1 v] }, toks := tk } := by
  refine wpAny_pyIter_range (IsRange.new ..) (small_one h1 h2 h3 h4) ?_
  have I1 : Inv X pins σ H { s with heap := s.heap.push { cls := .type "range", data := .fields #[.int lo t, .int hi u, .int 1 v] }, toks := tk } := I.kept fun b o e => Heap.get?_push_of_some _ e
  refine ⟨(s.heap.push { cls := .type "range", data := .fields #[.int lo t, .int hi u, .int 1 v] }).objs.size, [(s.heap.push { cls := .type "range", data := .fields #[.int lo t, .int hi u, .int 1 v] }).objs.size], _, _, H, rfl,
    I1.kept (t' := tk) fun b o e => Heap.get?_push_of_some _ e, turn_range _ lo (hi - lo).toNat, ?_, fun b hb => ?_, q⟩
  · have e1 : lo + ((0 : Nat) : Int) * 1 = lo := by simp
    have e2 : (((hi - lo).toNat : Nat) : Int) - ((0 : Nat) : Int) = Builtin.Range.rangeSize lo hi 1 := by rw [rangeSize_one]; split <;> omega
    show IsRangeIter _ _ (lo + ((0 : Nat) : Int) * 1) ((((hi - lo).toNat : Nat) : Int) - ((0 : Nat) : Int)) 1
    rw [e1, e2]
    exact Heap.get?_push_size _ rfl
  · have e : b = (s.heap.push { cls := .type "range", data := .fields #[.int lo t, .int hi u, .int 1 v] }).objs.size := by simpa using hb
    subst e
    exact I1.fpOk (Nat.le_refl _) (I1.hok.fresh (Nat.le_refl _))
def iRng1 (ta : TA) : TI := fun σ H R => ta σ H fun vs H1 => ∃ j : Int, vs = [.int j] ∧ -(2 ^ 62) ≤ j ∧ j < 2 ^ 62 ∧ R (Itr 0 j.toNat) H1
def iRng2 (ta : TA) : TI := fun σ H R => ta σ H fun vs H1 => ∃ i j : Int, vs = [.int i, .int j] ∧ (-(2 ^ 62) ≤ i ∧ i < 2 ^ 62 ∧ -(2 ^ 62) ≤ j ∧ j < 2 ^ 62) ∧ R (Itr i (j - i).toNat) H1
theorem pi_range1 {a : Expr} {ta : TA} {p pos : Pos} (hg : Gl X "range") (hm : X.mg "range" = none) (ha : PA X [a] ta) (hs : starEach [a] X.env = [(false, eval a X.env)] := by rfl) : PI X tg (.Call (.Name "range" p) [a] [] pos) (iRng1 ta) := by
  intro pins s σ H R I h
  refine Call_ (ld_blt I hg hm boot_range (PyProof.Rows.callWith_type1 (thn (ha pos pins s σ H _ I h) fun us s1 ⟨vs, H1, I1, r1, q1⟩ => ?_) hs rfl))
  obtain ⟨j, e, q1, q2, q⟩ := q1
  subst e
  cases r1 with
  | cons r rr =>
    cases rr
    obtain ⟨t, rfl⟩ := r
    exact call_range_1 (range_it I1 (by omega) (by omega) q1 q2 (by simpa using q))
theorem pi_range2 {a b : Expr} {ta : TA} {p pos : Pos} (hg : Gl X "range") (hm : X.mg "range" = none) (ha : PA X [a, b] ta) (hs : starEach [a, b] X.env = [(false, eval a X.env), (false, eval b X.env)] := by rfl) (hs2 : starEach [b] X.env = [(false, eval b X.env)] := by rfl) :
    PI X tg (.Call (.Name "range" p) [a, b] [] pos) (iRng2 ta) := by
  intro pins s σ H R I h
  refine Call_ (ld_blt I hg hm boot_range (PyProof.Rows.callWith_type1 (thn (ha pos pins s σ H _ I h) fun us s1 ⟨vs, H1, I1, r1, q1⟩ => ?_) (by rw [hs, hs2]) (by rw [hs2]; rfl)))
  obtain ⟨i, j, e, ⟨q1, q2, q3, q4⟩, q⟩ := q1
  subst e
  cases r1 with
  | cons r rr =>
    cases rr with
    | cons r' rr =>
      cases rr
      obtain ⟨t, rfl⟩ := r
      obtain ⟨t', rfl⟩ := r'
      exact call_range_2 (range_it I1 q1 q2 q3 q4 q)

/-! ### for -/
/-- W: the invariant by the turn and a measure; N: what the body is to reach -/
def tFor (wi : TI) (g : TG) (tb : TS) : TS := fun D σ H => wi σ H fun J H1 => ∃ W : Nat → Nat → St → Hp → Prop, (∃ m, W 0 m σ H1) ∧ ∀ i m σ H, W i m σ H →
  (J.stop i H ∧ D.nx σ H) ∨ (J.go i H ∧ ∃ N : St → Hp → Prop, (∀ σ' H', N σ' H' → ∃ m', m' < m ∧ W (i + 1) m' σ' H') ∧ ∀ x H', J.yld i H x H' → g x σ H' fun σ2 H2 => tb { D with nx := N, ct := N, bk := D.nx } σ2 H2)
/-- the records at fp as they stand -/
def pinsAt (fp : List Addr) (h : Heap) : List (Addr × Obj) := fp.filterMap fun b => (h.get? b).map fun o => (b, o)
theorem mem_pinsAt {fp : List Addr} {h : Heap} {b : Addr} {o : Obj} (hb : b ∈ fp) (e : h.get? b = some o) : (b, o) ∈ pinsAt fp h := List.mem_filterMap.mpr ⟨b, hb, by rw [e]; rfl⟩
theorem of_pinsAt {fp : List Addr} {h : Heap} {p : Addr × Obj} (hp : p ∈ pinsAt fp h) : p.1 ∈ fp ∧ h.get? p.1 = some p.2 := by
  obtain ⟨b, hb, e⟩ := List.mem_filterMap.mp hp
  cases q : h.get? b with
  | none => rw [q] at e; cases e
  | some o =>
    rw [q] at e
    have e' : (b, o) = p := Option.some.inj e
    subst e'
    exact ⟨hb, q⟩
theorem Inv.pinned {pins : List (Addr × Obj)} {σ : St} {H : Hp} {s : Shared} {fp : List Addr} (I : Inv X pins σ H s) (hf : ∀ b ∈ fp, FpOk X pins H b) (ho : ∀ b ∈ fp, ∃ o, s.heap.get? b = some o ∧ ∀ v, o.data ≠ .cell v) : Inv X (pins ++ pinsAt fp s.heap) σ H s :=
  I.pins_of fun p hp => (List.mem_append.mp hp).elim (fun z => I.pin p (List.mem_append_right _ z)) fun z => by
    obtain ⟨hb, e⟩ := of_pinsAt z
    obtain ⟨f0, f1, f2, _⟩ := hf p.1 hb
    obtain ⟨o, e', d⟩ := ho p.1 hb
    rw [e] at e'; cases e'
    exact ⟨e, f0, f1, f2, d⟩
theorem Inv.unpinned {pins pl : List (Addr × Obj)} {σ : St} {H : Hp} {s : Shared} (I : Inv X (pins ++ pl) σ H s) : Inv X pins σ H s := I.pins_of fun p hp => I.pin p (List.mem_append_right _ (List.mem_append_left _ hp))
theorem ps_for {iter : Expr} {body : List Stmt} {wi : TI} {g : TG} {tb : TS} {pos : Pos} (hp : PassesOwn (model X.prog X.w) X.A X.env X.xe) (hc : X.calm = true) (hi : PI X tg iter wi) (hg : PG X tg g) (hb : PSs X body tb)
    (hs : ∀ x, foldedSetIterable iter X.env x = pure x := by intro _; rfl) : PS X (.For tg iter body [] pos) (tFor wi g tb) := by
  intro pins s σ H D I h
  refine wpAny_For (thn (hi pins s σ H _ I h) fun v s1 h1 => thn h1 fun itv s2 h2 => ?_) hs
  obtain ⟨it, fp, tn, J, H2, e, I2, T, st2, f2, W, ⟨m0, w0⟩, turn⟩ := h2
  subst e
  -- what stays true of the iterator's objects through the loop
  have stat : ∀ {H' : Hp}, (∀ b ∈ fp, H' b = none) → ∀ b ∈ fp, FpOk X pins H' b := fun hn b hb => ⟨hn b hb, (f2 b hb).2⟩
  refine codeAny_forLoop_any (fun n s' => ∃ i σ' H', Inv X pins σ' H' s' ∧ tn i s'.heap ∧ (∀ b ∈ fp, H' b = none) ∧ W i n σ' H') ?_ m0 ⟨0, σ, H2, I2, st2, fun b hb => (f2 b hb).1, w0⟩
  rintro n s3 ⟨i, σ3, H3, I3, st3, fr3, w3⟩
  rcases turn i n σ3 H3 w3 with ⟨stop, qn⟩ | ⟨go, N, hN, step⟩
  · refine wpAny_passesOwn hp (thn (T.done X rfl rfl rfl hc i pins s3 σ3 H3 X.xe I3 (stat fr3) st3 stop) fun r s4 ⟨hr, I4⟩ => ?_)
    subst hr
    exact wpAny_execs_nil ⟨σ3, H3, I4, qn⟩
  · refine wpAny_passesOwn hp (thn (T.item X rfl rfl rfl hc i pins s3 σ3 H3 X.xe I3 (stat fr3) st3 go) fun r s4 ⟨u, hr, h4⟩ => ?_)
    subst hr
    refine wpAny_passesOwn hp (thn h4 fun _ s5 ⟨x, H5, I5, r5, y5, st5, fr5⟩ => ?_)
    have I5' := I5.pinned (stat fr5) (T.obj _ _ st5)
    refine wpAny_passesOwn hp (thn (hg _ s5 σ3 H5 x u _ I5' r5 (step x H5 y5)) fun _ s6 ⟨σ6, H6, I6, q6⟩ => ?_)
    refine wpAny_passesOwn hp (thn (hb _ s6 σ6 H6 _ I6 q6) fun f s7 q7 => ?_)
    have again : ∀ {σ7 : St} {H7 : Hp}, Inv X (pins ++ pinsAt fp s5.heap) σ7 H7 s7 → N σ7 H7 → ∃ m, m < n ∧ ∃ i σ' H', Inv X pins σ' H' s7 ∧ tn i s7.heap ∧ (∀ b ∈ fp, H' b = none) ∧ W i m σ' H' := fun {σ7 H7} I7 n7 => by
      obtain ⟨m', hm, w7⟩ := hN σ7 H7 n7
      refine ⟨m', hm, i + 1, σ7, H7, I7.unpinned, T.keep _ _ _ st5 fun b hb o e => (I7.pin (b, o) (List.mem_append_right _ (List.mem_append_right _ (mem_pinsAt hb e)))).1, fun b hb => ?_, w7⟩
      obtain ⟨o, e, d⟩ := T.obj _ _ st5 b hb
      exact (I7.pin (b, o) (List.mem_append_right _ (List.mem_append_right _ (mem_pinsAt hb e)))).2.1
    cases f with
    | next => obtain ⟨σ7, H7, I7, n7⟩ := q7; exact again I7 n7
    | cont => obtain ⟨σ7, H7, I7, n7⟩ := q7; exact again I7 n7
    | brk => obtain ⟨σ7, H7, I7, q7⟩ := q7; exact ⟨σ7, H7, I7.unpinned, q7⟩
    | ret v => obtain ⟨x7, σ7, H7, I7, r7, q7⟩ := q7; exact ⟨x7, σ7, H7, I7.unpinned, r7, q7⟩
end

/-! ### the forms one uses -/
/-- over a list that the body leaves as it is -/
theorem for_list {K : PySem.W.Frag} {a : Addr} {xs : List V} {g : TG} {tb : TS} {D : Ends} {σ : St} {H : Hp} (Pv : Nat → St → Hp → Prop) (h0 : Pv 0 σ H) (hl : ∀ i σ H, i ≤ xs.length → Pv i σ H → SqL K H a xs)
    (hs : ∀ i x σ H, xs[i]? = some x → Pv i σ H → g x σ H fun σ2 H2 => tb { D with nx := Pv (i + 1), ct := Pv (i + 1), bk := D.nx } σ2 H2) (hd : ∀ σ H, Pv xs.length σ H → D.nx σ H) :
    ∃ W : Nat → Nat → St → Hp → Prop, (∃ m, W 0 m σ H) ∧ ∀ i m σ H, W i m σ H →
      ((Itl K a).stop i H ∧ D.nx σ H) ∨ ((Itl K a).go i H ∧ ∃ N : St → Hp → Prop, (∀ σ' H', N σ' H' → ∃ m', m' < m ∧ W (i + 1) m' σ' H') ∧ ∀ x H', (Itl K a).yld i H x H' → g x σ H' fun σ2 H2 => tb { D with nx := N, ct := N, bk := D.nx } σ2 H2) := by
  refine ⟨fun i m σ H => m = xs.length - i ∧ i ≤ xs.length ∧ Pv i σ H, ⟨xs.length, by simp, Nat.zero_le _, h0⟩, ?_⟩
  rintro i m σ H ⟨rfl, hi, p⟩
  have q := hl i σ H hi p
  by_cases hlt : i < xs.length
  · refine .inr ⟨⟨xs, xs[i], q, by simp [hlt]⟩, Pv (i + 1), fun σ' H' p' => ⟨xs.length - (i + 1), by omega, rfl, hlt, p'⟩, fun x H' y => ?_⟩
    obtain ⟨e, y⟩ := y
    subst e
    exact hs i x σ _ (y xs q) p
  · have e : i = xs.length := by omega
    subst e
    exact .inl ⟨⟨xs, q, Nat.le_refl _⟩, hd σ H p⟩
theorem for_tup {K : PySem.W.Frag} {a : Addr} {xs : List V} {g : TG} {tb : TS} {D : Ends} {σ : St} {H : Hp} (Pv : Nat → St → Hp → Prop) (h0 : Pv 0 σ H) (hl : ∀ i σ H, i ≤ xs.length → Pv i σ H → SqT K H a xs)
    (hs : ∀ i x σ H, xs[i]? = some x → Pv i σ H → g x σ H fun σ2 H2 => tb { D with nx := Pv (i + 1), ct := Pv (i + 1), bk := D.nx } σ2 H2) (hd : ∀ σ H, Pv xs.length σ H → D.nx σ H) :
    ∃ W : Nat → Nat → St → Hp → Prop, (∃ m, W 0 m σ H) ∧ ∀ i m σ H, W i m σ H →
      ((Itt K a).stop i H ∧ D.nx σ H) ∨ ((Itt K a).go i H ∧ ∃ N : St → Hp → Prop, (∀ σ' H', N σ' H' → ∃ m', m' < m ∧ W (i + 1) m' σ' H') ∧ ∀ x H', (Itt K a).yld i H x H' → g x σ H' fun σ2 H2 => tb { D with nx := N, ct := N, bk := D.nx } σ2 H2) := by
  refine ⟨fun i m σ H => m = xs.length - i ∧ i ≤ xs.length ∧ Pv i σ H, ⟨xs.length, by simp, Nat.zero_le _, h0⟩, ?_⟩
  rintro i m σ H ⟨rfl, hi, p⟩
  have q := hl i σ H hi p
  by_cases hlt : i < xs.length
  · refine .inr ⟨⟨xs, xs[i], q, by simp [hlt]⟩, Pv (i + 1), fun σ' H' p' => ⟨xs.length - (i + 1), by omega, rfl, hlt, p'⟩, fun x H' y => ?_⟩
    obtain ⟨e, y⟩ := y
    subst e
    exact hs i x σ _ (y xs q) p
  · have e : i = xs.length := by omega
    subst e
    exact .inl ⟨⟨xs, q, Nat.le_refl _⟩, hd σ H p⟩
theorem for_range {lo : Int} {n : Nat} {g : TG} {tb : TS} {D : Ends} {σ : St} {H : Hp} (Pv : Nat → St → Hp → Prop) (h0 : Pv 0 σ H)
    (hs : ∀ i σ H, i < n → Pv i σ H → g (.int (lo + i)) σ H fun σ2 H2 => tb { D with nx := Pv (i + 1), ct := Pv (i + 1), bk := D.nx } σ2 H2) (hd : ∀ σ H, Pv n σ H → D.nx σ H) :
    ∃ W : Nat → Nat → St → Hp → Prop, (∃ m, W 0 m σ H) ∧ ∀ i m σ H, W i m σ H →
      ((Itr lo n).stop i H ∧ D.nx σ H) ∨ ((Itr lo n).go i H ∧ ∃ N : St → Hp → Prop, (∀ σ' H', N σ' H' → ∃ m', m' < m ∧ W (i + 1) m' σ' H') ∧ ∀ x H', (Itr lo n).yld i H x H' → g x σ H' fun σ2 H2 => tb { D with nx := N, ct := N, bk := D.nx } σ2 H2) := by
  refine ⟨fun i m σ H => m = n - i ∧ i ≤ n ∧ Pv i σ H, ⟨n, by simp, Nat.zero_le _, h0⟩, ?_⟩
  rintro i m σ H ⟨rfl, hi, p⟩
  by_cases hlt : i < n
  · refine .inr ⟨hlt, Pv (i + 1), fun σ' H' p' => ⟨n - (i + 1), by omega, rfl, hlt, p'⟩, fun x H' y => ?_⟩
    obtain ⟨e, y⟩ := y
    subst e y
    exact hs i σ _ hlt p
  · have e : i = n := by omega
    subst e
    exact .inl ⟨Nat.le_refl _, hd σ H p⟩
/-- while, by a word and a measure of the state -/
theorem while_by {c : TT} {tb : TS} {D : Ends} {σ : St} {H : Hp} (Pv : St → Hp → Prop) (μ : St → Hp → Nat) (h0 : Pv σ H)
    (hs : ∀ σ H, Pv σ H → c σ H fun b H1 => if b = true then tb { D with nx := fun σ' H' => Pv σ' H' ∧ μ σ' H' < μ σ H, ct := fun σ' H' => Pv σ' H' ∧ μ σ' H' < μ σ H, bk := D.nx } σ H1 else D.nx σ H1)
    (mono : ∀ σ H Q Q', (∀ b H1, Q b H1 → Q' b H1) → c σ H Q → c σ H Q') : tWhile c tb D σ H := by
  refine ⟨fun m σ H => m = μ σ H ∧ Pv σ H, ⟨_, rfl, h0⟩, ?_⟩
  rintro m σ H ⟨rfl, p⟩
  refine mono σ H _ _ (fun b H1 q => ?_) (hs σ H p)
  cases b with
  | true => exact ⟨_, fun σ' H' ⟨p', l⟩ => ⟨_, l, rfl, p'⟩, q⟩
  | false => exact q
end L2

namespace L2
open PySem PySem.Spec PyProof.Rows

abbrev R2 := V → V → Hp → VK → Prop
/-- a two-place operation on values: f is binaryOp op, inplaceOp op or compareOp op -/
def OpR (X : Cx) (f : Value → Value → Sem Value) (r : R2) : Prop :=
  ∀ (pins : List (Addr × Obj)) (s : Shared) (σ : St) (H : Hp) (x y : V) (v u : Value) (Q : VK), Inv X pins σ H s → RelV x v → RelV y u → r x y H Q →
    wpAny (model X.prog X.w) X.A (f v u) (EP X pins σ Q) X.xe s
/-- a one-place operation -/
def UnR (X : Cx) (f : Value → Sem Value) (r : V → Hp → VK → Prop) : Prop :=
  ∀ (pins : List (Addr × Obj)) (s : Shared) (σ : St) (H : Hp) (x : V) (v : Value) (Q : VK), Inv X pins σ H s → RelV x v → r x H Q →
    wpAny (model X.prog X.w) X.A (f v) (EP X pins σ Q) X.xe s
/-- a call of a value that is known (a builtin, a type) with values -/
def CallR (X : Cx) (f : Value) (r : List V → Hp → VK → Prop) : Prop :=
  ∀ (pins : List (Addr × Obj)) (s : Shared) (σ : St) (H : Hp) (xs : List V) (us : List Value) (Q : VK), Inv X pins σ H s → Vals xs us → r xs H Q →
    wpAny (model X.prog X.w) X.A (call f us) (EP X pins σ Q) X.xe s
/-- a value's truth -/
def TruR (X : Cx) (r : V → Hp → (Bool → Hp → Prop) → Prop) : Prop :=
  ∀ (pins : List (Addr × Obj)) (s : Shared) (σ : St) (H : Hp) (x : V) (v : Value) (Q : Bool → Hp → Prop), Inv X pins σ H s → RelV x v → r x H Q →
    wpAny (model X.prog X.w) X.A (truthy v) (TP X pins σ Q) X.xe s

def tOp (r : R2) (ta tb : TE) : TE := fun σ H Q => ta σ H fun x H1 => tb σ H1 fun y H2 => r x y H2 Q
def tUn (r : V → Hp → VK → Prop) (ta : TE) : TE := fun σ H Q => ta σ H fun x H1 => r x H1 Q
/-- ints in, under C, and a value out -/
def rI (C : Int → Int → Prop) (g : Int → Int → V) : R2 := fun x y H Q => ∃ i j, x = .int i ∧ y = .int j ∧ C i j ∧ Q (g i j) H
def rI0 (g : Int → Int → V) : R2 := fun x y H Q => ∃ i j, x = .int i ∧ y = .int j ∧ Q (g i j) H
def rU (g : Int → V) : V → Hp → VK → Prop := fun x H Q => ∃ i, x = .int i ∧ Q (g i) H

section
variable {X : Cx} {a b c : Expr} {ta tb tc : TE} {pos : Pos}

theorem binT (ha : PE X a ta) (hb : PE X b tb) {pins : List (Addr × Obj)} {s : Shared} {σ : St} {H : Hp} {R : V → V → Hp → Prop} (I : Inv X pins σ H s)
    (h : ta σ H fun x H1 => tb σ H1 fun y H2 => R x y H2) {Q : Value → Shared → Prop} {f : Value → Value → Sem Value}
    (hf : ∀ v u s2 x y H2, Inv X pins σ H2 s2 → RelV x v → RelV y u → R x y H2 → wpAny (model X.prog X.w) X.A (f v u) Q X.xe s2) :
    wpAny (model X.prog X.w) X.A (eval a X.env) (fun v s₁ => wpAny (model X.prog X.w) X.A (eval b X.env) (fun u s₂ => wpAny (model X.prog X.w) X.A (f v u) Q X.xe s₂) X.xe s₁) X.xe s := by
  refine thn (ha pins s σ H _ I h) fun v s1 ⟨x, H1, I1, r1, q1⟩ => ?_
  refine thn (hb pins s1 σ H1 _ I1 q1) fun u s2 ⟨y, H2, I2, r2, q2⟩ => ?_
  exact hf v u s2 x y H2 I2 r1 r2 q2

theorem pe_op {op : Operator} {r : R2} (ho : OpR X (binaryOp op) r) (ha : PE X a ta) (hb : PE X b tb) : PE X (.BinOp a op b pos) (tOp r ta tb) := by
  intro pins s σ H Q I h
  exact wpAny_BinOp (binT ha hb I h fun v u s2 x y H2 I2 rx ry q => ho pins s2 σ H2 x y v u Q I2 rx ry q)
theorem pe_un {op : UnaryOp} {r : V → Hp → VK → Prop} (ho : UnR X (unaryOp op) r) (ha : PE X a ta) : PE X (.UnaryOp op a pos) (tUn r ta) := by
  intro pins s σ H Q I h
  exact UnaryOp_ (thn (ha pins s σ H _ I h) fun v s1 ⟨x, H1, I1, r1, q1⟩ => ho pins s1 σ H1 x v Q I1 r1 q1)
/-- a op= e at a name: the name's slot i -/
theorem augR {op : Operator} {r : R2} (ho : OpR X (inplaceOp op) r) {pins : List (Addr × Obj)} {s : Shared} {σ : St} {H : Hp} {x y : V} {v u : Value} {Q : VK} (I : Inv X pins σ H s)
    (rx : RelV x v) (ry : RelV y u) (q : r x y H Q) : wpAny (model X.prog X.w) X.A (inplaceOp op v u) (EP X pins σ Q) X.xe s := ho pins s σ H x y v u Q I rx ry q

/-! ### ints -/
theorem opI {f : Value → Value → Sem Value} {C : Int → Int → Prop} {g : Int → Int → Int}
    (rule : ∀ (i j : Int) (t u : Tok) (s : Shared) (Q : Value → Shared → Prop) (E : Value → Shared → Prop), C i j → Q (.int (g i j) s.toks) { s with toks := s.toks + 1 } → wpAny (model X.prog X.w) X.A (f (.int i t) (.int j u)) Q E s) :
    OpR X f (rI C fun i j => .int (g i j)) := by
  intro pins s σ H x y v u Q I rx ry h
  obtain ⟨i, j, rfl, rfl, hc, q⟩ := h
  obtain ⟨t, rfl⟩ := rx
  obtain ⟨t', rfl⟩ := ry
  exact rule i j t t' s _ _ hc ⟨.int (g i j), H, I.tok _, ⟨_, rfl⟩, q⟩
theorem opI0 {f : Value → Value → Sem Value} {g : Int → Int → Int}
    (rule : ∀ (i j : Int) (t u : Tok) (s : Shared) (Q : Value → Shared → Prop) (E : Value → Shared → Prop), Q (.int (g i j) s.toks) { s with toks := s.toks + 1 } → wpAny (model X.prog X.w) X.A (f (.int i t) (.int j u)) Q E s) :
    OpR X f (rI0 fun i j => .int (g i j)) := by
  intro pins s σ H x y v u Q I rx ry h
  obtain ⟨i, j, rfl, rfl, q⟩ := h
  obtain ⟨t, rfl⟩ := rx
  obtain ⟨t', rfl⟩ := ry
  exact rule i j t t' s _ _ ⟨.int (g i j), H, I.tok _, ⟨_, rfl⟩, q⟩
theorem opB0 {f : Value → Value → Sem Value} {g : Int → Int → Bool}
    (rule : ∀ (i j : Int) (t u : Tok) (s : Shared) (Q : Value → Shared → Prop) (E : Value → Shared → Prop), Q (.bool (g i j)) s → wpAny (model X.prog X.w) X.A (f (.int i t) (.int j u)) Q E s) :
    OpR X f (rI0 fun i j => .bl (g i j)) := by
  intro pins s σ H x y v u Q I rx ry h
  obtain ⟨i, j, rfl, rfl, q⟩ := h
  obtain ⟨t, rfl⟩ := rx
  obtain ⟨t', rfl⟩ := ry
  exact rule i j t t' s _ _ ⟨.bl (g i j), H, I, rfl, q⟩

def CDiv (i j : Int) : Prop := 0 < j ∧ j < 1073741824
def CDivN (i j : Int) : Prop := j ≠ 0 ∧ j.natAbs < 1073741824
def CPow (i j : Int) : Prop := 0 ≤ j ∧ j ≤ 1000000 ∧ i.natAbs < 2 ^ 64
def CMul (i j : Int) : Prop := (-(2 ^ 64) < i ∧ i < 2 ^ 64) ∨ (-(2 ^ 64) < j ∧ j < 2 ^ 64)
theorem CMul.ok {i j : Int} (h : CMul i j) : IntMulOk i j := by
  rcases h with ⟨h1, h2⟩ | ⟨h1, h2⟩
  · exact .of_left (intBits_le_64 h1 h2)
  · exact .of_right (intBits_le_64 h1 h2)
theorem two_pow_nn (k : Nat) : (0 : Int) ≤ 2 ^ k := by
  rw [two_pow_cast]
  exact Int.natCast_nonneg _

theorem op_add : OpR X (binaryOp .Add) (rI0 fun i j => .int (i + j)) := opI0 fun _ _ _ _ _ _ _ q => add_int q
theorem op_sub : OpR X (binaryOp .Sub) (rI0 fun i j => .int (i - j)) := opI0 fun _ _ _ _ _ _ _ q => sub_int q
theorem op_mul : OpR X (binaryOp .Mult) (rI CMul fun i j => .int (i * j)) := opI fun _ _ _ _ _ _ _ hc q => mul_int q hc.ok
/-- // by a positive divisor -/
theorem op_fdiv : OpR X (binaryOp .FloorDiv) (rI CDiv fun i j => .int (i / j)) := opI fun i j _ _ _ _ _ hc q => by
  have h1 : (0 : Int) < j := hc.1
  have h2 : j < 1073741824 := hc.2
  exact floordiv_int (by omega) (by rw [Int.fdiv_eq_ediv_of_nonneg i (by omega)]; exact q) (.inl (PyProof.noPylong_small (by omega)))
theorem op_fdivN : OpR X (binaryOp .FloorDiv) (rI CDivN fun i j => .int (i.fdiv j)) := opI fun _ _ _ _ _ _ _ hc q => floordiv_int hc.1 q (.inl (PyProof.noPylong_small hc.2))
/-- % by a positive divisor of any size -/
theorem op_mod : OpR X (binaryOp .Mod) (rI (fun _ j => 0 < j) fun i j => .int (i % j)) := opI fun i j _ _ _ _ _ hc q => by
  have h1 : (0 : Int) < j := hc
  exact mod_int' (by omega) (by rw [Int.fmod_eq_emod_of_nonneg i (by omega)]; exact q)
theorem op_modN : OpR X (binaryOp .Mod) (rI (fun _ j => j ≠ 0) fun i j => .int (i.fmod j)) := opI fun _ _ _ _ _ _ _ hc q => mod_int' hc q
theorem op_pow : OpR X (binaryOp .Pow) (rI CPow fun i j => .int (i ^ j.toNat)) := opI fun _ _ _ _ _ _ _ hc q => pow_int_small hc.1 hc.2.1 hc.2.2 q
theorem op_shl : OpR X (binaryOp .LShift) (rI CPow fun i j => .int (i * 2 ^ j.toNat)) := opI fun _ _ _ _ _ _ _ hc q => lshift_int_small hc.1 hc.2.1 hc.2.2 q
theorem op_shr : OpR X (binaryOp .RShift) (rI (fun _ j => 0 ≤ j) fun i j => .int (i / 2 ^ j.toNat)) := opI fun i j _ _ _ _ _ hc q =>
  rshift_int hc (by rw [Int.fdiv_eq_ediv_of_nonneg i (two_pow_nn _)]; exact q)
theorem op_and : OpR X (binaryOp .BitAnd) (rI0 fun i j => .int (Builtin.bitAnd i j)) := opI0 fun _ _ _ _ _ _ _ q => and_int q
theorem op_or : OpR X (binaryOp .BitOr) (rI0 fun i j => .int (Builtin.bitOr i j)) := opI0 fun _ _ _ _ _ _ _ q => or_int q
theorem op_xor : OpR X (binaryOp .BitXor) (rI0 fun i j => .int (Builtin.bitXor i j)) := opI0 fun _ _ _ _ _ _ _ q => xor_int q

theorem iop_add : OpR X (inplaceOp .Add) (rI0 fun i j => .int (i + j)) := opI0 fun _ _ _ _ _ _ _ q => iadd_int q
theorem iop_sub : OpR X (inplaceOp .Sub) (rI0 fun i j => .int (i - j)) := opI0 fun _ _ _ _ _ _ _ q => isub_int q
theorem iop_mul : OpR X (inplaceOp .Mult) (rI CMul fun i j => .int (i * j)) := opI fun _ _ _ _ _ _ _ hc q => imul_int q hc.ok
theorem iop_fdiv : OpR X (inplaceOp .FloorDiv) (rI CDiv fun i j => .int (i / j)) := opI fun i j _ _ _ _ _ hc q => by
  have h1 : (0 : Int) < j := hc.1
  have h2 : j < 1073741824 := hc.2
  exact ifloordiv_int (by omega) (by rw [Int.fdiv_eq_ediv_of_nonneg i (by omega)]; exact q) (.inl (PyProof.noPylong_small (by omega)))
theorem iop_mod : OpR X (inplaceOp .Mod) (rI (fun _ j => 0 < j) fun i j => .int (i % j)) := opI fun i j _ _ _ _ _ hc q => by
  have h1 : (0 : Int) < j := hc
  exact imod_int (by omega) (by rw [Int.fmod_eq_emod_of_nonneg i (by omega)]; exact q)
theorem iop_shl : OpR X (inplaceOp .LShift) (rI CPow fun i j => .int (i * 2 ^ j.toNat)) := opI fun _ _ _ _ _ _ _ hc q => ilshift_int_small hc.1 hc.2.1 hc.2.2 q
theorem iop_shr : OpR X (inplaceOp .RShift) (rI (fun _ j => 0 ≤ j) fun i j => .int (i / 2 ^ j.toNat)) := opI fun i j _ _ _ _ _ hc q =>
  irshift_int hc (by rw [Int.fdiv_eq_ediv_of_nonneg i (two_pow_nn _)]; exact q)
theorem iop_and : OpR X (inplaceOp .BitAnd) (rI0 fun i j => .int (Builtin.bitAnd i j)) := opI0 fun _ _ _ _ _ _ _ q => iand_int q
theorem iop_or : OpR X (inplaceOp .BitOr) (rI0 fun i j => .int (Builtin.bitOr i j)) := opI0 fun _ _ _ _ _ _ _ q => ior_int q
theorem iop_xor : OpR X (inplaceOp .BitXor) (rI0 fun i j => .int (Builtin.bitXor i j)) := opI0 fun _ _ _ _ _ _ _ q => ixor_int q

theorem unI {f : Value → Sem Value} {g : Int → Int}
    (rule : ∀ (i : Int) (t : Tok) (s : Shared) (Q : Value → Shared → Prop) (E : Value → Shared → Prop), Q (.int (g i) s.toks) { s with toks := s.toks + 1 } → wpAny (model X.prog X.w) X.A (f (.int i t)) Q E s) :
    UnR X f (rU fun i => .int (g i)) := by
  intro pins s σ H x v Q I rx h
  obtain ⟨i, rfl, q⟩ := h
  obtain ⟨t, rfl⟩ := rx
  exact rule i t s _ _ ⟨.int (g i), H, I.tok _, ⟨_, rfl⟩, q⟩
theorem un_neg : UnR X (unaryOp .USub) (rU fun i => .int (-i)) := unI fun _ _ _ _ _ q => neg_int q
theorem un_inv : UnR X (unaryOp .Invert) (rU fun i => .int (Builtin.bitNot i)) := unI fun _ _ _ _ _ q => invert_int q

/-! ### bools among ints: n += (a < b) -/
theorem op_add_ib : OpR X (binaryOp .Add) (fun x y H Q => ∃ i k, x = .int i ∧ y = .bl k ∧ Q (.int (i + b2i k)) H) := by
  intro pins s σ H x y v u Q I rx ry h
  obtain ⟨i, k, rfl, rfl, q⟩ := h
  obtain ⟨t, rfl⟩ := rx
  cases ry
  exact add_int_bool ⟨.int (i + b2i k), H, I.tok _, ⟨_, rfl⟩, q⟩
end

/-! ### comparisons -/
/-- the scalars that == tells apart as data does -/
def scal : V → V → Bool
  | .non, .non => true | .non, .int _ => true | .int _, .non => true | .non, .bl _ => true | .bl _, .non => true | .non, .str _ => true | .str _, .non => true
  | .int _, .int _ => true | .bl _, .bl _ => true | .str _, .str _ => true | .byt _, .byt _ => true
  | .int _, .str _ => true | .str _, .int _ => true | .bl _, .str _ => true | .str _, .bl _ => true
  | _, _ => false
def rEq : R2 := fun x y H Q => scal x y = true ∧ Q (.bl (decide (x = y))) H
def rNe : R2 := fun x y H Q => scal x y = true ∧ Q (.bl (!decide (x = y))) H

theorem dec_int {i j : Int} : decide (V.int i = V.int j) = (i == j) := by
  rw [Bool.eq_iff_iff]
  simp
theorem dec_bl {i j : Bool} : decide (V.bl i = V.bl j) = (i == j) := by
  rw [Bool.eq_iff_iff]
  simp
theorem dec_str {i j : Str} : decide (V.str i = V.str j) = (i == j) := by
  rw [Bool.eq_iff_iff]
  simp
theorem dec_byt {i j : Array UInt8} : decide (V.byt i = V.byt j) = (i.toList == j.toList) := by
  rw [Bool.eq_iff_iff]
  cases i
  cases j
  simp

section
variable {X : Cx} {a b c : Expr} {ta tb tc : TE} {pos : Pos}
theorem fin_bl {pins : List (Addr × Obj)} {σ : St} {H : Hp} {s : Shared} {Q : VK} {k k' : Bool} (I : Inv X pins σ H s) (q : Q (.bl k) H) (e : k = k') : EP X pins σ Q (.bool k') s := by
  subst e
  exact ⟨.bl k, H, I, rfl, q⟩
theorem op_eq : OpR X (compareOp .Eq) rEq := by
  intro pins s σ H x y v u Q I rx ry h
  obtain ⟨hs, q⟩ := h
  cases x with
  | non =>
    cases rx
    cases y with
    | non => cases ry; exact PySem.EqNone.eq_none_none (fin_bl I q (by simp))
    | bl j => cases ry; exact PySem.EqNone.eq_none_bool (fin_bl I q (by simp))
    | int j => obtain ⟨t', rfl⟩ := ry; exact PySem.EqNone.eq_none_int (fin_bl I q (by simp))
    | str j => obtain ⟨t', rfl⟩ := ry; exact PySem.EqNone.eq_none_str (fin_bl I q (by simp))
    | _ => exact absurd (show false = true from hs) Bool.false_ne_true
  | bl i =>
    cases rx
    cases y with
    | non => cases ry; exact PySem.EqNone.eq_bool_none (fin_bl I q (by simp))
    | bl j => cases ry; exact eq_bool (fin_bl I q dec_bl)
    | str j => obtain ⟨t', rfl⟩ := ry; exact PySem.EqMixed.eq_bool_str (fin_bl I q (by simp))
    | _ => exact absurd (show false = true from hs) Bool.false_ne_true
  | int i =>
    obtain ⟨t, rfl⟩ := rx
    cases y with
    | non => cases ry; exact PySem.EqNone.eq_int_none (fin_bl I q (by simp))
    | int j => obtain ⟨t', rfl⟩ := ry; exact eq_int (fin_bl I q dec_int)
    | str j => obtain ⟨t', rfl⟩ := ry; exact PySem.EqMixed.eq_int_str (fin_bl I q (by simp))
    | _ => exact absurd (show false = true from hs) Bool.false_ne_true
  | str i =>
    obtain ⟨t, rfl⟩ := rx
    cases y with
    | non => cases ry; exact PySem.EqNone.eq_str_none (fin_bl I q (by simp))
    | bl j => cases ry; exact PySem.EqMixed.eq_str_bool (fin_bl I q (by simp))
    | int j => obtain ⟨t', rfl⟩ := ry; exact PySem.EqMixed.eq_str_int (fin_bl I q (by simp))
    | str j => obtain ⟨t', rfl⟩ := ry; exact eq_str (fin_bl I q dec_str)
    | _ => exact absurd (show false = true from hs) Bool.false_ne_true
  | byt i =>
    obtain ⟨t, rfl⟩ := rx
    cases y with
    | byt j => obtain ⟨t', rfl⟩ := ry; exact PySem.W.eq_bytes (fin_bl I q dec_byt)
    | _ => exact absurd (show false = true from hs) Bool.false_ne_true
  | _ => cases y <;> exact absurd (show false = true from hs) Bool.false_ne_true
theorem op_ne : OpR X (compareOp .NotEq) rNe := by
  intro pins s σ H x y v u Q I rx ry h
  obtain ⟨hs, q⟩ := h
  cases x with
  | non =>
    cases rx
    cases y with
    | non => cases ry; exact PySem.EqNone.ne_none_none (fin_bl I q (by simp))
    | bl j => cases ry; exact PySem.EqNone.ne_none_bool (fin_bl I q (by simp))
    | int j => obtain ⟨t', rfl⟩ := ry; exact PySem.EqNone.ne_none_int (fin_bl I q (by simp))
    | str j => obtain ⟨t', rfl⟩ := ry; exact PySem.EqNone.ne_none_str (fin_bl I q (by simp))
    | _ => exact absurd (show false = true from hs) Bool.false_ne_true
  | bl i =>
    cases rx
    cases y with
    | non => cases ry; exact PySem.EqNone.ne_bool_none (fin_bl I q (by simp))
    | bl j => cases ry; exact ne_bool (fin_bl I q (congrArg not dec_bl))
    | str j => obtain ⟨t', rfl⟩ := ry; exact PySem.EqMixed.ne_bool_str (fin_bl I q (by simp))
    | _ => exact absurd (show false = true from hs) Bool.false_ne_true
  | int i =>
    obtain ⟨t, rfl⟩ := rx
    cases y with
    | non => cases ry; exact PySem.EqNone.ne_int_none (fin_bl I q (by simp))
    | int j => obtain ⟨t', rfl⟩ := ry; exact ne_int (fin_bl I q (congrArg not dec_int))
    | str j => obtain ⟨t', rfl⟩ := ry; exact PySem.EqMixed.ne_int_str (fin_bl I q (by simp))
    | _ => exact absurd (show false = true from hs) Bool.false_ne_true
  | str i =>
    obtain ⟨t, rfl⟩ := rx
    cases y with
    | non => cases ry; exact PySem.EqNone.ne_str_none (fin_bl I q (by simp))
    | bl j => cases ry; exact PySem.EqMixed.ne_str_bool (fin_bl I q (by simp))
    | int j => obtain ⟨t', rfl⟩ := ry; exact PySem.EqMixed.ne_str_int (fin_bl I q (by simp))
    | str j => obtain ⟨t', rfl⟩ := ry; exact ne_str (fin_bl I q (congrArg not dec_str))
    | _ => exact absurd (show false = true from hs) Bool.false_ne_true
  | byt i =>
    obtain ⟨t, rfl⟩ := rx
    cases y with
    | byt j => obtain ⟨t', rfl⟩ := ry; exact PySem.W.ne_bytes (fin_bl I q (congrArg not dec_byt))
    | _ => exact absurd (show false = true from hs) Bool.false_ne_true
  | _ => cases y <;> exact absurd (show false = true from hs) Bool.false_ne_true

theorem op_lt : OpR X (compareOp .Lt) (rI0 fun i j => .bl (decide (i < j))) := opB0 fun _ _ _ _ _ _ _ q => lt_int q
theorem op_le : OpR X (compareOp .LtE) (rI0 fun i j => .bl (decide (i ≤ j))) := opB0 fun _ _ _ _ _ _ _ q => le_int q
theorem op_gt : OpR X (compareOp .Gt) (rI0 fun i j => .bl (decide (j < i))) := opB0 fun _ _ _ _ _ _ _ q => gt_int q
theorem op_ge : OpR X (compareOp .GtE) (rI0 fun i j => .bl (decide (j ≤ i))) := opB0 fun _ _ _ _ _ _ _ q => ge_int q
theorem op_lt_str : OpR X (compareOp .Lt) (fun x y H Q => ∃ i j, x = .str i ∧ y = .str j ∧ Q (.bl (decide (i.cps.toList < j.cps.toList))) H) := by
  intro pins s σ H x y v u Q I rx ry h
  obtain ⟨i, j, rfl, rfl, q⟩ := h
  obtain ⟨t, rfl⟩ := rx
  obtain ⟨t', rfl⟩ := ry
  exact lt_str (fin_bl I q rfl)
/-- the one string within the other -/
theorem op_in_str : OpR X (compareOp .In) (fun x y H Q => ∃ i j, x = .str i ∧ y = .str j ∧ Q (.bl (!(Builtin.Str.occurrences j i 0 j.length 1).isEmpty)) H) := by
  intro pins s σ H x y v u Q I rx ry h
  obtain ⟨i, j, rfl, rfl, q⟩ := h
  obtain ⟨t, rfl⟩ := rx
  obtain ⟨t', rfl⟩ := ry
  exact in_str (fin_bl I q rfl)

/-- is None, is not None: the right side a value none -/
theorem op_isN : OpR X (compareOp .Is) (fun x y H Q => y = .non ∧ Q (.bl (decide (x = .non))) H) := by
  intro pins s σ H x y v u Q I rx ry h
  obtain ⟨rfl, q⟩ := h
  cases ry
  refine is_none_gen (fin_bl I q ?_)
  cases x <;> first
    | (cases rx; rfl)
    | (obtain ⟨t, rfl⟩ := rx; rfl)
theorem op_notN : OpR X (compareOp .IsNot) (fun x y H Q => y = .non ∧ Q (.bl (!decide (x = .non))) H) := by
  intro pins s σ H x y v u Q I rx ry h
  obtain ⟨rfl, q⟩ := h
  cases ry
  refine isnot_none_gen (fin_bl I q ?_)
  cases x <;> first
    | (cases rx; rfl)
    | (obtain ⟨t, rfl⟩ := rx; rfl)

theorem op_notin_str : OpR X (compareOp .NotIn) (fun x y H Q => ∃ i j, x = .str i ∧ y = .str j ∧ Q (.bl (!(!(Builtin.Str.occurrences j i 0 j.length 1).isEmpty))) H) := by
  intro pins s σ H x y v u Q I rx ry h
  obtain ⟨i, j, rfl, rfl, q⟩ := h
  obtain ⟨t, rfl⟩ := rx
  obtain ⟨t', rfl⟩ := ry
  exact notIn_str (fin_bl I q rfl)
/-- is, is not of two objects that are tracked lists or instances -/
def isObj : HO → Bool
  | .lst _ => true
  | .ins _ _ _ => true
  | _ => false
theorem obj_there {pins : List (Addr × Obj)} {s : Shared} {σ : St} {H : Hp} {a : Addr} {o : HO} (I : Inv X pins σ H s) (h : H a = some o) (p : isObj o = true) : ∃ ob, s.heap.get? a = some ob ∧ ob.cls ≠ .type "tuple" := by
  cases o with
  | lst xs =>
    obtain ⟨_, its, n, _, e⟩ : xs.length ≤ sizeLine ∧ ∃ (its : List Value) (n : Nat), Vals xs its ∧ s.heap.get? a = some { cls := .type "list", data := .seq its.toArray n } := I.hok a _ h
    exact ⟨_, e, (by show Value.type "list" ≠ .type "tuple"; decide +kernel)⟩
  | ins C dx fs =>
    have x := I.hok a _ h
    obtain ⟨_, _, _, e, _⟩ := x
    exact ⟨_, e, (by show Value.ref C ≠ .type "tuple"; exact fun z => by cases z)⟩
  | _ => exact absurd (show false = true from p) Bool.false_ne_true
theorem op_is_ref : OpR X (compareOp .Is) (fun x y H Q => ∃ a b oa ob, x = .ref a ∧ y = .ref b ∧ H a = some oa ∧ isObj oa = true ∧ H b = some ob ∧ isObj ob = true ∧ Q (.bl (decide (a = b))) H) := by
  intro pins s σ H x y v u Q I rx ry h
  obtain ⟨a, b, oa, ob, rfl, rfl, ha, pa, hb, pb, q⟩ := h
  cases rx
  cases ry
  obtain ⟨o1, e1, n1⟩ := obj_there I ha pa
  obtain ⟨o2, e2, _⟩ := obj_there I hb pb
  by_cases z : a = b
  · subst z
    exact wpAny_is_ref_self (fin_bl I q (by simp))
  · exact wpAny_is_ref_other z e1 e2 n1 (fin_bl I q (by simp [z]))
theorem op_isnot_ref : OpR X (compareOp .IsNot) (fun x y H Q => ∃ a b oa ob, x = .ref a ∧ y = .ref b ∧ H a = some oa ∧ isObj oa = true ∧ H b = some ob ∧ isObj ob = true ∧ Q (.bl (!decide (a = b))) H) := by
  intro pins s σ H x y v u Q I rx ry h
  obtain ⟨a, b, oa, ob, rfl, rfl, ha, pa, hb, pb, q⟩ := h
  cases rx
  cases ry
  obtain ⟨o1, e1, n1⟩ := obj_there I ha pa
  obtain ⟨o2, e2, _⟩ := obj_there I hb pb
  by_cases z : a = b
  · subst z
    exact wpAny_isNot_ref_self (fin_bl I q (by simp))
  · exact wpAny_isNot_ref_other z e1 e2 n1 (fin_bl I q (by simp [z]))

/-- two rules for one operation: by cases -/
theorem OpR.or {f : Value → Value → Sem Value} {r r' : R2} (h : OpR X f r) (h' : OpR X f r') : OpR X f (fun x y H Q => r x y H Q ∨ r' x y H Q) := by
  intro pins s σ H x y v u Q I rx ry q
  rcases q with q | q
  · exact h pins s σ H x y v u Q I rx ry q
  · exact h' pins s σ H x y v u Q I rx ry q

theorem nomark (b : Expr) {op : CmpOp} (h : op ≠ .In := by decide) (h2 : op ≠ .NotIn := by decide) : behindInMarks op b = false := by
  have e1 : (op == CmpOp.In) = false := by cases op <;> first | rfl | exact absurd rfl h
  have e2 : (op == CmpOp.NotIn) = false := by cases op <;> first | rfl | exact absurd rfl h2
  cases b <;> simp [behindInMarks, e1, e2]
/-- a comparison as a value; hm: nomark b, or (for in, not in) by with_unfolding_all rfl -/
theorem pe_cmpR {op : CmpOp} {r : R2} (ho : OpR X (compareOp op) r) (ha : PE X a ta) (hb : PE X b tb) (hm : behindInMarks op b = false) : PE X (.Compare a [op] [b] pos) (tOp r ta tb) := by
  intro pins s σ H Q I h
  exact wpAny_Compare1 (binT ha hb I h fun v u s2 x y H2 I2 rx ry q => ho pins s2 σ H2 x y v u Q I2 rx ry q) hm
/-- a reading of a value as a test -/
def tTest (t : TE) : TT := fun σ H Q => t σ H fun x H' => ∃ k, x = .bl k ∧ Q k H'
theorem pt_cmpR {op : CmpOp} {r : R2} (ho : OpR X (compareOp op) r) (ha : PE X a ta) (hb : PE X b tb) (hm : behindInMarks op b = false) : PT X (.Compare a [op] [b] pos) (tTest (tOp r ta tb)) := by
  intro pins s σ H Q I h
  refine wpAny_isTrue_Compare1 (thn (ha pins s σ H _ I h) fun v s1 ⟨x, H1, I1, r1, q1⟩ => thn (hb pins s1 σ H1 _ I1 q1) fun u s2 ⟨y, H2, I2, r2, q2⟩ =>
    thn (ho pins s2 σ H2 x y v u _ I2 r1 r2 q2) fun c s3 ⟨z, H3, I3, r3, k, e, q3⟩ => ?_) hm
  subst e
  cases r3
  exact wpAny_truthy_bool ⟨H3, I3, q3⟩
/-- a op1 b op2 c -/
def tChain (r r' : R2) (ta tb tc : TE) : TE := fun σ H Q => ta σ H fun x H1 => tb σ H1 fun y H2 => r x y H2 fun z H3 => ∃ k, z = .bl k ∧
  (if k = true then tc σ H3 fun w' H4 => r' y w' H4 Q else Q (.bl false) H3)
theorem pe_chain {op op' : CmpOp} {r r' : R2} (ho : OpR X (compareOp op) r) (ho' : OpR X (compareOp op') r') (ha : PE X a ta) (hb : PE X b tb) (hc : PE X c tc)
    (hm : lastMarks [op, op'] [b, c] = false := by with_unfolding_all rfl) : PE X (.Compare a [op, op'] [b, c] pos) (tChain r r' ta tb tc) := by
  intro pins s σ H Q I h
  refine Compare_chain (thn (ha pins s σ H _ I h) fun v s1 ⟨x, H1, I1, r1, q1⟩ => chain_link (thn (hb pins s1 σ H1 _ I1 q1) fun u s2 ⟨y, H2, I2, r2, q2⟩ =>
    thn (ho pins s2 σ H2 x y v u _ I2 r1 r2 q2) fun d s3 ⟨z, H3, I3, r3, k, e, q3⟩ => ?_)) hm
  subst e
  cases r3
  refine wpAny_truthy_bool ?_
  cases k with
  | false => exact ite_ff ⟨.bl false, H3, I3, rfl, q3⟩
  | true => exact ite_tt (chain_last (thn (hc pins s3 σ H3 _ I3 q3) fun w' s4 ⟨z', H4, I4, r4, q4⟩ => ho' pins s4 σ H4 y z' u w' Q I4 r2 r4 q4))
theorem pt_chain {op op' : CmpOp} {r r' : R2} (ho : OpR X (compareOp op) r) (ho' : OpR X (compareOp op') r') (ha : PE X a ta) (hb : PE X b tb) (hc : PE X c tc)
    (hm : lastMarks [op, op'] [b, c] = false := by with_unfolding_all rfl) : PT X (.Compare a [op, op'] [b, c] pos) (tTest (tChain r r' ta tb tc)) := by
  intro pins s σ H Q I h
  refine isTrue_chain (thn (ha pins s σ H _ I h) fun v s1 ⟨x, H1, I1, r1, q1⟩ => test_link (thn (hb pins s1 σ H1 _ I1 q1) fun u s2 ⟨y, H2, I2, r2, q2⟩ =>
    thn (ho pins s2 σ H2 x y v u _ I2 r1 r2 q2) fun d s3 ⟨z, H3, I3, r3, k, e, q3⟩ => ?_)) hm
  subst e
  cases r3
  refine wpAny_truthy_bool ?_
  cases k with
  | false =>
    obtain ⟨k', e', q'⟩ := q3
    cases e'
    exact ite_ff ⟨H3, I3, q'⟩
  | true =>
    refine ite_tt (test_last (thn (hc pins s3 σ H3 _ I3 q3) fun w' s4 ⟨z', H4, I4, r4, q4⟩ => thn (ho' pins s4 σ H4 y z' u w' _ I4 r2 r4 q4) fun d' s5 ⟨z2, H5, I5, r5, k2, e2, q5⟩ => ?_))
    subst e2
    cases r5
    exact wpAny_truthy_bool ⟨H5, I5, q5⟩

/-! ### truth -/
/-- a value's truth by the abstract heap -/
def TruV (K : PySem.W.Frag) (x : V) (H : Hp) (k : Bool) : Prop :=
  match x with
  | .non => k = false
  | .bl b => k = b
  | .int i => k = (i != 0)
  | .str y => y.length ≤ sizeLine ∧ k = ((y.length : Int) != 0)
  | .byt y => y.size ≤ sizeLine ∧ k = ((y.size : Int) != 0)
  | .ref p => (∃ xs, SqL K H p xs ∧ k = !xs.isEmpty) ∨ (∃ xs, SqT K H p xs ∧ k = !xs.isEmpty) ∨ ∃ kvs, H p = some (.dK kvs) ∧ k = !kvs.isEmpty
  | _ => False
theorem isEmpty_kv {κ : Type} {kvs : List (κ × V)} {vs : List (κ × Value)} (r : KV kvs vs) : (!vs.isEmpty) = !kvs.isEmpty := by
  cases r <;> rfl
theorem isEmpty_of {xs : List V} {its : List Value} (r : Vals xs its) : (!its.toArray.isEmpty) = !xs.isEmpty := by
  cases r <;> simp
theorem line63 : (sizeLine : Nat) < 2 ^ 63 := by rw [sizeLine_eq]; decide
theorem tru_ok : TruR X (fun x H Q => ∃ k, TruV X.K x H k ∧ Q k H) := by
  intro pins s σ H x v Q I rx h
  obtain ⟨k, e, q⟩ := h
  have hl := line63
  have hs : sizeLine = 16777216 := sizeLine_eq
  cases x with
  | non =>
    cases rx
    have e' : k = false := e
    subst e'
    exact truthy_none ⟨H, I, q⟩
  | bl b =>
    cases rx
    have e' : k = b := e
    subst e'
    exact wpAny_truthy_bool ⟨H, I, q⟩
  | int i =>
    obtain ⟨t, rfl⟩ := rx
    have e' : k = (i != 0) := e
    subst e'
    exact PySem.P.truthy_int ⟨H, I, q⟩
  | str y =>
    obtain ⟨t, rfl⟩ := rx
    obtain ⟨hy, e'⟩ : y.length ≤ sizeLine ∧ k = ((y.length : Int) != 0) := e
    subst e'
    exact PySem.P.truthy_str (by omega) ⟨H, I.tok _, q⟩
  | byt y =>
    obtain ⟨t, rfl⟩ := rx
    obtain ⟨hy, e'⟩ : y.size ≤ sizeLine ∧ k = ((y.size : Int) != 0) := e
    subst e'
    exact PySem.W.truthy_bytes (by omega) ⟨H, I.tok _, q⟩
  | ref p =>
    cases rx
    have e' : (∃ xs, SqL X.K H p xs ∧ k = !xs.isEmpty) ∨ (∃ xs, SqT X.K H p xs ∧ k = !xs.isEmpty) ∨ ∃ kvs, H p = some (.dK kvs) ∧ k = !kvs.isEmpty := e
    rcases e' with ⟨xs, hx, e'⟩ | ⟨xs, hx, e'⟩ | ⟨kvs, hx, e'⟩
    · subst e'
      obtain ⟨its, r, pl, hz⟩ := I.list hx
      have hlen := r.length
      exact wpAny_truthy_list pl.isList (by simp only [List.size_toArray]; omega) ⟨H, I.tok _, by rw [isEmpty_of r]; exact q⟩
    · subst e'
      obtain ⟨its, r, pl, hz⟩ := I.tuple hx
      have hlen := r.length
      exact truthy_tuple pl (by simp only [List.size_toArray]; omega) ⟨H, I.tok _, by rw [isEmpty_of r]; exact q⟩
    · subst e'
      obtain ⟨hz, hS, vs, r, m⟩ : kvs.length ≤ sizeLine ∧ (p == sysModules) = false ∧ ∃ vs, KV kvs vs ∧ s.heap.DictOf (mixKind X.prog X.w) p vs := I.hok p _ hx
      have hlen : kvs.length = vs.length := Paired.length r
      exact wpAny_truthy_dict hS m (by omega) ⟨H, I.tok _, by rw [isEmpty_kv r]; exact q⟩
  | _ => exact (show False from e).elim
/-- any expression whose test is its value's truth (a name, a call, a subscript, a field ..: he by fun _ => rfl) -/
theorem pt_truth (ha : PE X a ta) (he : ∀ whole, isTrue a X.env whole = (do let v ← whole; standAt a.pos; holding [v] (truthy v))) :
    PT X a (fun σ H Q => ta σ H fun x H' => ∃ k, TruV X.K x H' k ∧ Q k H') := by
  intro pins s σ H Q I h
  exact isTrue_plain (thn (ha pins s σ H _ I h) fun v s1 ⟨x, H1, I1, r1, q1⟩ => tru_ok pins s1 σ H1 x v Q I1 r1 q1) (he _)

/-! ### strs and bytes -/
theorem pe_byt {x : List UInt8} {k : Nat} : PE X (.Constant (.bytes x) k pos) (fun _ H Q => Q (.byt x.toArray) H) := fun _ _ _ H _ I h => PySem.W.Constant_bytes ⟨.byt x.toArray, H, I.tok _, ⟨_, rfl⟩, h⟩
theorem op_add_str : OpR X (binaryOp .Add) (fun x y H Q => ∃ i j, x = .str i ∧ y = .str j ∧ i.length + j.length ≤ sizeLine ∧ Q (.str (i ++ j)) H) := by
  intro pins s σ H x y v u Q I rx ry h
  obtain ⟨i, j, rfl, rfl, hz, q⟩ := h
  obtain ⟨t, rfl⟩ := rx
  obtain ⟨t', rfl⟩ := ry
  exact add_str (fun t' tk => ⟨.str (i ++ j), H, I.tok _, ⟨_, rfl⟩, q⟩) hz
theorem iop_add_str : OpR X (inplaceOp .Add) (fun x y H Q => ∃ i j, x = .str i ∧ y = .str j ∧ i.length + j.length ≤ sizeLine ∧ Q (.str (i ++ j)) H) := by
  intro pins s σ H x y v u Q I rx ry h
  obtain ⟨i, j, rfl, rfl, hz, q⟩ := h
  obtain ⟨t, rfl⟩ := rx
  obtain ⟨t', rfl⟩ := ry
  exact iadd_str (fun t' tk => ⟨.str (i ++ j), H, I.tok _, ⟨_, rfl⟩, q⟩) hz
theorem op_add_byt : OpR X (binaryOp .Add) (fun x y H Q => ∃ i j, x = .byt i ∧ y = .byt j ∧ i.size + j.size ≤ 16777216 ∧ Q (.byt (i ++ j)) H) := by
  intro pins s σ H x y v u Q I rx ry h
  obtain ⟨i, j, rfl, rfl, hz, q⟩ := h
  obtain ⟨t, rfl⟩ := rx
  obtain ⟨t', rfl⟩ := ry
  exact PySem.W.KBy.add_bytes hz (fun t' tk => ⟨.byt (i ++ j), H, I.tok _, ⟨_, rfl⟩, q⟩)

def PlainIxT (b : Expr) : Prop := ∀ o i, subscripted b false o i = operate [o, i] (getItem o i)
/-- s[i], 0 ≤ i < len -/
theorem pe_item_str (ha : PE X a ta) (hb : PE X b tb) (hs : PlainIxT b) :
    PE X (.Subscript a b pos) (tOp (fun x y H Q => ∃ z i c, x = .str z ∧ y = .int i ∧ 0 ≤ i ∧ i < 2 ^ 63 ∧ i < z.length ∧ z.cps[i.toNat]? = some c ∧ Q (.str ⟨#[c]⟩) H) ta tb) := by
  intro pins s σ H Q I h
  refine Subscript_ (binT ha hb I h fun v u s2 x y H2 I2 rx ry q => ?_)
  obtain ⟨z, i, c, rfl, rfl, h0, h63, h1, hc, q⟩ := q
  obtain ⟨t, rfl⟩ := rx
  obtain ⟨t', rfl⟩ := ry
  have e : seqIndex? i z.length = some i.toNat := PySem.StrLaws.seqIndex_nonneg h0 h1
  exact tail_any (typeIs_str s2 z t) slot_str_getitem.lookup (getItem_str (c := c) (by
    have e1 : decide (i < -(2 ^ 63 : Int)) = false := decide_eq_false (by omega)
    have e2 : decide (i ≥ 2 ^ 63) = false := decide_eq_false (by omega)
    rw [e1, e2] <;> rfl) (by rw [e]; exact hc) ⟨.str ⟨#[c]⟩, H2, I2.tok _, ⟨_, rfl⟩, q⟩) (hs _ _)
/-- b[i], 0 ≤ i < len -/
theorem pe_item_byt (ha : PE X a ta) (hb : PE X b tb) (hs : PlainIxT b) :
    PE X (.Subscript a b pos) (tOp (fun x y H Q => ∃ (z : List UInt8) (i : Int), x = .byt z.toArray ∧ y = .int i ∧ z.length ≤ sizeLine ∧ 0 ≤ i ∧ i < z.length ∧ Q (.int ((z.getD i.toNat 0).toNat : Nat)) H) ta tb) := by
  intro pins s σ H Q I h
  refine Subscript_ (binT ha hb I h fun v u s2 x y H2 I2 rx ry q => ?_)
  obtain ⟨z, i, rfl, rfl, hz, h0, h1, q⟩ := q
  obtain ⟨t, rfl⟩ := rx
  obtain ⟨t', rfl⟩ := ry
  have hl : sizeLine = 16777216 := sizeLine_eq
  exact tail_any (PySem.W.typeIs_bytes s2 z.toArray t) PySem.W.FB.slot_bytes_getitem.lookup (PySem.W.getItem_bytes (by omega) h0 h1 ⟨.int ((z.getD i.toNat 0).toNat : Nat), H2, I2.tok _, ⟨_, rfl⟩, q⟩) (hs _ _)

/-! ### scalar builtins, by CallR -/
theorem vals1 {x : V} {us : List Value} (r : Vals [x] us) : ∃ u, us = [u] ∧ RelV x u := by
  cases r with
  | cons r1 r2 => cases r2; exact ⟨_, rfl, r1⟩
theorem vals2 {x y : V} {us : List Value} (r : Vals [x, y] us) : ∃ u w', us = [u, w'] ∧ RelV x u ∧ RelV y w' := by
  cases r with
  | cons r1 r2 =>
    cases r2 with
    | cons r3 r4 => cases r4; exact ⟨_, _, rfl, r1, r3⟩
theorem call_abs : CallR X (.builtin "abs") (fun xs H Q => ∃ i, xs = [.int i] ∧ Q (.int (if i < 0 then -i else i)) H) := by
  intro pins s σ H xs us Q I r h
  obtain ⟨i, rfl, q⟩ := h
  obtain ⟨u, rfl, t, rfl⟩ := vals1 r
  exact call_abs_int fun u tk => ⟨.int (if i < 0 then -i else i), H, I.tok _, ⟨_, rfl⟩, q⟩
theorem call_max2 (hc : X.calm = true) : CallR X (.builtin "max") (fun xs H Q => ∃ i j, xs = [.int i, .int j] ∧ Q (.int (if j > i then j else i)) H) := by
  intro pins s σ H xs us Q I r h
  obtain ⟨i, j, rfl, q⟩ := h
  obtain ⟨u, w', rfl, ⟨t, rfl⟩, ⟨t', rfl⟩⟩ := vals2 r
  refine max_two_ints (I.ok.hd hc) fun h' tk k => ⟨_, H, I.kept k, ?_, q⟩
  by_cases hj : j > i
  · rw [if_pos hj, if_pos hj]; exact ⟨_, rfl⟩
  · rw [if_neg hj, if_neg hj]; exact ⟨_, rfl⟩
theorem call_min2 (hc : X.calm = true) : CallR X (.builtin "min") (fun xs H Q => ∃ i j, xs = [.int i, .int j] ∧ Q (.int (if j < i then j else i)) H) := by
  intro pins s σ H xs us Q I r h
  obtain ⟨i, j, rfl, q⟩ := h
  obtain ⟨u, w', rfl, ⟨t, rfl⟩, ⟨t', rfl⟩⟩ := vals2 r
  refine min_two_ints (I.ok.hd hc) fun h' tk k => ⟨_, H, I.kept k, ?_, q⟩
  by_cases hj : j < i
  · rw [if_pos hj, if_pos hj]; exact ⟨_, rfl⟩
  · rw [if_neg hj, if_neg hj]; exact ⟨_, rfl⟩
theorem call_int1 : CallR X (.type "int") (fun xs H Q => (∃ i, xs = [.int i] ∧ Q (.int i) H) ∨ ∃ k, xs = [.bl k] ∧ Q (.int (if k then 1 else 0)) H) := by
  intro pins s σ H xs us Q I r h
  rcases h with ⟨i, rfl, q⟩ | ⟨k, rfl, q⟩
  · obtain ⟨u, rfl, t, rfl⟩ := vals1 r
    exact call_int_int ⟨.int i, H, I, ⟨_, rfl⟩, q⟩
  · obtain ⟨u, rfl, r1⟩ := vals1 r
    cases r1
    exact call_int_bool ⟨.int (if k then 1 else 0), H, I.tok _, ⟨_, rfl⟩, q⟩
theorem call_bool1 : CallR X (.type "bool") (fun xs H Q => (∃ i, xs = [.int i] ∧ Q (.bl (i != 0)) H) ∨ ∃ k, xs = [.bl k] ∧ Q (.bl k) H) := by
  intro pins s σ H xs us Q I r h
  rcases h with ⟨i, rfl, q⟩ | ⟨k, rfl, q⟩
  · obtain ⟨u, rfl, t, rfl⟩ := vals1 r
    exact call_bool_int ⟨.bl (i != 0), H, I, rfl, q⟩
  · obtain ⟨u, rfl, r1⟩ := vals1 r
    cases r1
    exact call_bool_bool ⟨.bl k, H, I, rfl, q⟩
theorem call_str_int : CallR X (.type "str") (fun xs H Q => ∃ i, xs = [.int i] ∧ i.natAbs.log2 < 1920 ∧ Q (.str (toString i)) H) := by
  intro pins s σ H xs us Q I r h
  obtain ⟨i, rfl, hz, q⟩ := h
  obtain ⟨u, rfl, t, rfl⟩ := vals1 r
  exact PySem.P.str_of_int hz ⟨.str _, H, I.tok _, ⟨_, rfl⟩, q⟩
theorem call_ord : CallR X (.builtin "ord") (fun xs H Q => ∃ x, xs = [.str x] ∧ x.length = 1 ∧ Q (.int (x.cps.getD 0 0 : Nat)) H) := by
  intro pins s σ H xs us Q I r h
  obtain ⟨x, rfl, hz, q⟩ := h
  obtain ⟨u, rfl, t, rfl⟩ := vals1 r
  exact ord_of_one hz ⟨.int _, H, I.tok _, ⟨_, rfl⟩, q⟩
theorem call_chr : CallR X (.builtin "chr") (fun xs H Q => ∃ i, xs = [.int i] ∧ 0 ≤ i ∧ i ≤ 1114111 ∧ Q (.str ⟨#[i.toNat]⟩) H) := by
  intro pins s σ H xs us Q I r h
  obtain ⟨i, rfl, h0, h1, q⟩ := h
  obtain ⟨u, rfl, t, rfl⟩ := vals1 r
  exact chr_of_range h0 h1 ⟨.str _, H, I.tok _, ⟨_, rfl⟩, q⟩
/-- len of a str, a bytes, a list, a tuple -/
def LenV (K : PySem.W.Frag) (x : V) (H : Hp) (n : Nat) : Prop :=
  match x with
  | .str y => y.length ≤ sizeLine ∧ n = y.length
  | .byt y => y.size ≤ sizeLine ∧ n = y.size
  | .ref p => (∃ xs, SqL K H p xs ∧ n = xs.length) ∨ ∃ xs, SqT K H p xs ∧ n = xs.length
  | _ => False
theorem call_len : CallR X (.builtin "len") (fun xs H Q => ∃ x n, xs = [x] ∧ LenV X.K x H n ∧ Q (.int n) H) := by
  intro pins s σ H xs us Q I r h
  obtain ⟨x, n, rfl, e, q⟩ := h
  obtain ⟨u, rfl, rx⟩ := vals1 r
  have hl := line63
  have hs : sizeLine = 16777216 := sizeLine_eq
  cases x with
  | str y =>
    obtain ⟨t, rfl⟩ := rx
    obtain ⟨hy, e'⟩ : y.length ≤ sizeLine ∧ n = y.length := e
    subst e'
    exact len_str (by omega) ⟨.int _, H, I.tok _, ⟨_, rfl⟩, q⟩
  | byt y =>
    obtain ⟨t, rfl⟩ := rx
    obtain ⟨hy, e'⟩ : y.size ≤ sizeLine ∧ n = y.size := e
    subst e'
    exact PySem.W.len_bytes (by omega) ⟨.int _, H, I.tok _, ⟨_, rfl⟩, q⟩
  | ref p =>
    cases rx
    have e' : (∃ xs, SqL X.K H p xs ∧ n = xs.length) ∨ ∃ xs, SqT X.K H p xs ∧ n = xs.length := e
    rcases e' with ⟨xs, hx, e'⟩ | ⟨xs, hx, e'⟩
    · subst e'
      obtain ⟨its, r', pl, hz⟩ := I.list hx
      have hlen := r'.length
      exact Calls.call_len_list pl.isList (by simp only [List.size_toArray]; omega) ⟨.int xs.length, H, I.tok _, ⟨_, by simp only [List.size_toArray]; rw [hlen]⟩, q⟩
    · subst e'
      obtain ⟨its, r', pl, hz⟩ := I.tuple hx
      have hlen := r'.length
      exact len_tuple pl (by simp only [List.size_toArray]; omega) ⟨.int xs.length, H, I.tok _, ⟨_, by simp only [List.size_toArray]; rw [hlen]⟩, q⟩
  | _ => exact (show False from e).elim
/-- divmod: a new tuple -/
theorem call_divmod : CallR X (.builtin "divmod") (fun xs H Q => ∃ i j, xs = [.int i, .int j] ∧ CDiv i j ∧ ∀ p, H p = none → Q (.ref p) (upd H p (.tup [.int (i / j), .int (i % j)]))) := by
  intro pins s σ H xs us Q I r h
  obtain ⟨i, j, rfl, ⟨h1, h2⟩, q⟩ := h
  obtain ⟨u, w', rfl, ⟨t, rfl⟩, ⟨t', rfl⟩⟩ := vals2 r
  refine divmod_int (by omega) ?_ (.inl (PyProof.noPylong_small (by omega)))
  rw [Int.fdiv_eq_ediv_of_nonneg i (by omega), Int.fmod_eq_emod_of_nonneg i (by omega)]
  have hn : H s.heap.objs.size = none := I.hok.fresh (Nat.le_refl _)
  refine ⟨.ref s.heap.objs.size, _, ?_, rfl, q _ hn⟩
  refine I.laid (fun b o e => Heap.get?_push_of_some _ e) (Nat.le_refl _) ⟨by simp only [List.length_cons, List.length_nil]; rw [sizeLine_eq]; decide, [.int (i / j) s.toks, .int (i % j) (s.toks + 1)], .cons ⟨_, rfl⟩ (.cons ⟨_, rfl⟩ .nil), ?_⟩
  exact ⟨_, Heap.get?_push_size s.heap rfl, rfl, 0, rfl⟩
end
end L2

namespace L2
open PySem PySem.Spec PyProof.Rows

/-! ### an instance, its attributes a map -/
structure ObjM (h : Heap) (x dx C : Addr) (mA : Str → Option Value) : Prop where
  obj : h.get? x = some (PySem.W.instObj C dx)
  ns : h.Ns1 dx mA
  ne : dx ≠ x

theorem lookIn_ns {h : Heap} {dx : Addr} {mA : Str → Option Value} (n : h.Ns1 dx mA) : ∃ od, h.get? dx = some od ∧ ∀ name, PySem.W.lookIn name od = some (mA name) := by
  obtain ⟨o, es, ep, ho, hd, hk, _, hm⟩ := n
  refine ⟨o, ho, fun name => ?_⟩
  have e := hm name
  unfold nsFind findBy at e
  rw [← Array.find?_toList] at e
  unfold PySem.W.lookIn
  rw [hd]
  dsimp only
  split
  · rename_i y q
    rw [q] at e
    exact congrArg some e
  · rename_i q
    rw [q] at e
    have a : es.toList.any (·.refKey) = false := by
      rw [List.any_eq_false]
      intro y hy
      obtain ⟨z, t, hkey⟩ := hk y (Array.mem_toList_iff.mp hy)
      simp [DictEntry.refKey, hkey]
    have a' : ¬ es.toList.any (·.refKey) = true := by rw [a]; exact Bool.false_ne_true
    rw [if_neg a']
    exact congrArg some e

theorem ObjM.look {h : Heap} {x dx C : Addr} {mA : Str → Option Value} (I : ObjM h x dx C mA) : ∃ od, PySem.W.InstAt h x (PySem.W.instObj C dx) C (some od) ∧ ∀ name, PySem.W.lookIn name od = some (mA name) :=
  let ⟨od, ho, hl⟩ := lookIn_ns I.ns
  ⟨od, ⟨I.obj, rfl, rfl, ho⟩, hl⟩

section
variable {prog : Program} {w : World} {A : Around} {E : Value → Shared → Prop} {s : Shared} {K : PySem.W.Frag} {x dx C f : Addr} {mA : Str → Option Value} {name : Str} {v : Value}

theorem get_map {expr : Bool} {Q : Value → Shared → Prop} (X : K.In s.heap) (I : ObjM s.heap x dx C mA) (hg : PySem.W.plainGet K C name = true) (hh : PySem.W.hasDictIn K C = true)
    (ha : PySem.W.findIn K (.ref C) name = some none) (hv : mA name = some v) (hv' : PySem.W.handedIn v = true) (h : Q v { s with toks := s.toks + 1 }) :
    wpAny (model prog w) A (getAttr (.ref x) name expr) Q E s := by
  obtain ⟨od, J, hl⟩ := I.look
  exact PySem.W.get_value X J (PySem.W.plainGet_of hg).1 (PySem.W.findObj_own hh ha rfl (by rw [hl, hv])) hv' h

theorem get_const {expr : Bool} {a : Value} {Q : Value → Shared → Prop} (X : K.In s.heap) (I : ObjM s.heap x dx C mA) (hg : PySem.W.plainGet K C name = true) (hh : PySem.W.hasDictIn K C = true)
    (ha : PySem.W.findIn K (.ref C) name = some (some a)) (hn : PySem.W.specialIn K a "__get__" = some none) (hc : PySem.W.copiedNames.contains name = false) (hv : mA name = none) (hv' : PySem.W.handedIn a = true)
    (h : Q a { s with toks := s.toks + 1 }) : wpAny (model prog w) A (getAttr (.ref x) name expr) Q E s := by
  obtain ⟨od, J, hl⟩ := I.look
  exact PySem.W.get_value X J (PySem.W.plainGet_of hg).1 (PySem.W.findObj_cls hh ha hn hv' hc (by rw [hl, hv])) hv' h

theorem get_meth {pl : Sem Bool} {Q : Value × List Value → Shared → Prop} (X : K.In s.heap) (I : ObjM s.heap x dx C mA) (hg : PySem.W.plainGet K C name = true)
    (hf : PySem.W.findIn K (.ref C) name = some (some (.ref f))) (ht : PySem.W.isFn K (.ref f) = true) (hv : mA name = none) (h : Q (.ref f, [.ref x]) s) :
    wpAny (model prog w) A (getMethod (.ref x) name pl) Q E s := by
  obtain ⟨od, J, hl⟩ := I.look
  exact PySem.W.method_fn X J (PySem.W.plainGet_of hg).1 (PySem.W.plainGet_of hg).2 hf (beq_iff_eq.mp ht) (by show (PySem.W.lookIn name od).map (·.isSome) = some false; rw [hl, hv]; rfl) h

theorem set_map {ns : List Str} {Q : Unit → Shared → Prop} (X : K.In s.heap) (I : ObjM s.heap x dx C mA)
    (hs : PySem.W.findIn K (.ref C) "__setattr__" = some (some (.builtin "object.__setattr__"))) (hp : PySem.W.plainOver K C = true) (ht : PySem.W.takerIn K C name = some none) (hh : PySem.W.hasDictIn K C = true)
    (hw : PySem.Within mA ns) (hsz : ns.length ≤ sizeLine)
    (h : ∀ h', ObjM h' x dx C (fun y => if y = name then some v else mA y) → Heap.SameBut dx s.heap h' → Q () { s with heap := h', toks := s.toks + 2 }) :
    wpAny (model prog w) A (setAttr (.ref x) name v) Q E s := by
  obtain ⟨od, J, hl⟩ := I.look
  refine PySem.W.set_plain X J hs (PySem.W.osa_open (s := { s with toks := s.toks + 1 }) (r := none) X J hp ht fun b => ?_)
  obtain ⟨cd, hc, hd'⟩ := PySem.W.any_some hh
  have hx : s.heap.get? x = some ⟨.ref C, some dx, .plain, #[]⟩ := I.obj
  refine wpAny_bind (wpAny_pure (wpAny_bind (wpAny_bind (wpAny_loadPart hx (wpAny_bind (PySem.W.Looks.here (s := { s with toks := s.toks + 1 }) (PySem.W.looks_clsIn X hc) ?_))))))
  rw [hd']
  refine wpAny_pure (a := some dx) (wpAny_bind (wpAny_pure (wpAny_bind ?_)))
  refine wpAny_nsSet1 (s := { s with toks := s.toks + 1 }) I.ns fun h' hn2 hs2 => ?_
  obtain ⟨oD, esD, epD, hoD, hdD, hcD⟩ := hn2.count (PySem.Within.cons name v hw)
  refine wpAny_bind (wpAny_lookBehind hoD (by rw [hdD]; exact pastItsLine_dict (Nat.le_trans hcD (by rw [List.length_cons]; omega))) ?_)
  exact wpAny_pure (h _ ⟨(hs2.2 _ (Ne.symm I.ne)).trans I.obj, hn2, I.ne⟩ hs2)

/-- C(..): the dict at the heap's end, the instance behind it; then its __init__ -/
theorem make_map {R : Result → Shared → Prop} {vs : List Value} {kw : List (Str × Value)} (X : K.In s.heap) (hm : PySem.W.makesIn K C = true)
    (hi : PySem.W.findIn K (.ref C) "__init__" = some (some (.ref f))) (hf : PySem.W.typeIn K (.ref f) = some (.type "function"))
    (h : codeAny (model prog w) (A.under (.builtin "type.__call__" ⟨.ref C :: vs, kw⟩)) (.call (.ref f) ⟨.ref (s.heap.objs.size + 1) :: vs, kw⟩) (PySem.W.InitBack (s.heap.objs.size + 1) R)
      { s with heap := (s.heap.push PySem.W.emptyDict).push (PySem.W.instObj C s.heap.objs.size) }) :
    codeAny (model prog w) A (.call (.ref C) ⟨vs, kw⟩) R s := by
  obtain ⟨hh, g, d, t, os⟩ := s
  exact PySem.W.make_core (PySem.W.makes_of X hm) (PySem.W.looks_findIn X hi) (fun self => PySem.W.bind_fn X self hf) (.inl rfl) h
/-- C() where there is no __init__ but object's -/
theorem make_map0 {R : Result → Shared → Prop} (X : K.In s.heap) (hm : PySem.W.makesIn K C = true)
    (hi : PySem.W.findIn K (.ref C) "__init__" = some (some (.builtin "object.__init__")))
    (hb : ∀ self, PySem.W.Looks (model prog w) s.heap (bindSpecial (.builtin "object.__init__") self) (.builtin "object.__init__", [self]))
    (h : codeAny (model prog w) (A.under (.builtin "type.__call__" ⟨[.ref C], []⟩)) (.call (.builtin "object.__init__") ⟨[.ref (s.heap.objs.size + 1)], []⟩) (PySem.W.InitBack (s.heap.objs.size + 1) R)
      { s with heap := (s.heap.push PySem.W.emptyDict).push (PySem.W.instObj C s.heap.objs.size) }) :
    codeAny (model prog w) A (.call (.ref C) ⟨[], []⟩) R s := by
  obtain ⟨hh, g, d, t, os⟩ := s
  exact PySem.W.make_core (PySem.W.makes_of X hm) (PySem.W.looks_findIn X hi) hb (.inr ⟨rfl, rfl⟩) h
end

/-! ### the attributes as a list of pairs -/
def putF (f : Str) (v : V) : List (Str × V) → List (Str × V)
  | [] => [(f, v)]
  | (g, x) :: r => if g = f then (g, v) :: r else (g, x) :: putF f v r
theorem lookup_putF (f g : Str) (v : V) : ∀ fs : List (Str × V), (putF f v fs).lookup g = if g = f then some v else fs.lookup g
  | [] => by
    show List.lookup g [(f, v)] = _
    by_cases h : g = f
    · have hb : (g == f) = true := beq_iff_eq.mpr h
      simp only [List.lookup, hb, if_pos h]
    · have hb : (g == f) = false := beq_eq_false_iff_ne.mpr h
      simp only [List.lookup, hb, if_neg h]
  | (k, x) :: r => by
    have ih := lookup_putF f g v r
    rw [show putF f v ((k, x) :: r) = (if k = f then (k, v) :: r else (k, x) :: putF f v r) from rfl]
    by_cases hk : k = f
    · rw [if_pos hk]
      by_cases h : g = k
      · have hb : (g == k) = true := beq_iff_eq.mpr h
        simp only [List.lookup, hb, if_pos (h.trans hk)]
      · have hb : (g == k) = false := beq_eq_false_iff_ne.mpr h
        simp only [List.lookup, hb, if_neg (fun e : g = f => h (e.trans hk.symm))]
    · rw [if_neg hk]
      by_cases h : g = k
      · have hb : (g == k) = true := beq_iff_eq.mpr h
        simp only [List.lookup, hb, if_neg (fun e : g = f => hk (h.symm.trans e))]
      · have hb : (g == k) = false := beq_eq_false_iff_ne.mpr h
        simp only [List.lookup, hb]
        exact ih
theorem keys_putF (f : Str) (v : V) : ∀ fs : List (Str × V), f ∈ (putF f v fs).map (·.1) ∧ ∀ g, g ∈ fs.map (·.1) → g ∈ (putF f v fs).map (·.1)
  | [] => ⟨by simp [putF], fun g h => by simp at h⟩
  | (k, x) :: r => by
    obtain ⟨i1, i2⟩ := keys_putF f v r
    rw [show putF f v ((k, x) :: r) = (if k = f then (k, v) :: r else (k, x) :: putF f v r) from rfl]
    by_cases hk : k = f
    · rw [if_pos hk]
      subst hk
      exact ⟨by simp, fun g h => by simpa using h⟩
    · rw [if_neg hk]
      refine ⟨?_, fun g h => ?_⟩
      · rw [List.map_cons]
        exact List.mem_cons_of_mem _ i1
      · rw [List.map_cons] at h ⊢
        rcases List.mem_cons.mp h with e | e
        · exact List.mem_cons.mpr (.inl e)
        · exact List.mem_cons_of_mem _ (i2 g e)
theorem length_putF (f : Str) (v : V) : ∀ fs : List (Str × V), (putF f v fs).length ≤ fs.length + 1
  | [] => by simp [putF]
  | (k, x) :: r => by
    have ih := length_putF f v r
    rw [show putF f v ((k, x) :: r) = (if k = f then (k, v) :: r else (k, x) :: putF f v r) from rfl]
    by_cases hk : k = f
    · rw [if_pos hk, List.length_cons, List.length_cons]; omega
    · rw [if_neg hk, List.length_cons, List.length_cons]; omega

theorem RelO.some_of {v : V} {o : Option Value} (r : RelO (some v) o) : ∃ u, o = some u ∧ RelV v u := by
  cases o with
  | none => exact (show False from r).elim
  | some u => exact ⟨u, rfl, r⟩
theorem RelO.none_of {o : Option Value} (r : RelO none o) : o = none := by
  cases o with
  | none => rfl
  | some u => exact (show False from r).elim
theorem handed_of {v : V} {u : Value} (r : RelV v u) : PySem.W.handedIn u = true := by
  cases v with
  | non => cases (show u = Value.none from r); rfl
  | bl b => cases (show u = Value.bool b from r); rfl
  | int i => obtain ⟨t, e⟩ := (show ∃ t, u = Value.int i t from r); cases e; rfl
  | str x => obtain ⟨t, e⟩ := (show ∃ t, u = Value.str x t from r); cases e; rfl
  | byt b => obtain ⟨t, e⟩ := (show ∃ t, u = Value.bytes b t from r); cases e; rfl
  | flt b => obtain ⟨t, e⟩ := (show ∃ t, u = Value.float b t from r); cases e; rfl
  | ref a => cases (show u = Value.ref a from r); rfl
  | ty n => cases (show u = Value.type n from r); rfl

section
variable {P : Program} {w : World} {H H' : Hp} {h h' : Heap} {a C dx : Addr} {fs fs' : List (Str × V)}
theorem ins_get (hok : HOk P w H h) (e : H a = some (.ins C dx fs)) : ∃ mA, ObjM h a dx C mA ∧ (∀ f, RelO (fs.lookup f) (mA f)) ∧ PySem.Within mA (fs.map (·.1)) ∧ fs.length ≤ 1000 ∧ H dx = some (.own a) := by
  obtain ⟨d, z, ne, ob, mA, n, r, q⟩ := (show ObjOk P w H h a (.ins C dx fs) from hok a _ e)
  exact ⟨mA, ⟨ob, n, ne⟩, r, q, z, d⟩
end

/-! ### what of the text a class must have -/
structure Cls (K : PySem.W.Frag) (C : Addr) : Prop where
  pg : PySem.W.plainGet K C Str.empty = true
  hd : PySem.W.hasDictIn K C = true
  po : PySem.W.plainOver K C = true
  sa : PySem.W.findIn K (.ref C) "__setattr__" = some (some (.builtin "object.__setattr__"))
theorem Cls.get {K : PySem.W.Frag} {C : Addr} (c : Cls K C) (f : Str) : PySem.W.plainGet K C f = true := c.pg
/-- no class of it has the name -/
def NoAttr (K : PySem.W.Frag) (C : Addr) (f : Str) : Prop := PySem.W.findIn K (.ref C) f = some none
theorem NoAttr.taker {K : PySem.W.Frag} {C : Addr} {f : Str} (n : NoAttr K C f) : PySem.W.takerIn K C f = some none := by
  unfold PySem.W.takerIn
  rw [show PySem.W.findIn K (.ref C) f = some none from n]
  rfl
/-- a constant of the class -/
structure Con (K : PySem.W.Frag) (C : Addr) (f : Str) (v : V) (u : Value) : Prop where
  at_ : PySem.W.findIn K (.ref C) f = some (some u)
  rel : RelV v u
  get : PySem.W.specialIn K u "__get__" = some none
  cp : PySem.W.copiedNames.contains f = false
/-- a method: a plain def of the class or of one above it -/
structure Meth (K : PySem.W.Frag) (C : Addr) (m : Str) (f : Addr) : Prop where
  at_ : PySem.W.findIn K (.ref C) m = some (some (.ref f))
  fn : PySem.W.isFn K (.ref f) = true
  kp : PySem.W.keepIn K (.ref f) = true

section
variable {X : Cx} {pins : List (Addr × Obj)} {σ : St} {H : Hp} {s : Shared} {a C dx : Addr} {fs : List (Str × V)} {f : Str} {v : V} {A : Around} {E : Value → Shared → Prop}

theorem getattr_ok {b : Bool} {Q : Value → Shared → Prop} (I : Inv X pins σ H s) (e : H a = some (.ins C dx fs)) (c : Cls X.K C) (n : NoAttr X.K C f) (l : fs.lookup f = some v)
    (h : ∀ u s', Inv X pins σ H s' → RelV v u → Q u s') : wpAny (model X.prog X.w) A (getAttr (.ref a) f b) Q E s := by
  obtain ⟨mA, O, r, _, _, _⟩ := ins_get I.hok e
  obtain ⟨u, hu, ru⟩ := RelO.some_of (v := v) (o := mA f) (by rw [← l]; exact r f)
  exact get_map I.kIn O (c.get f) c.hd n hu (handed_of ru) (h u _ (I.tok _) ru)

theorem getcon_ok {b : Bool} {u : Value} {Q : Value → Shared → Prop} (I : Inv X pins σ H s) (e : H a = some (.ins C dx fs)) (c : Cls X.K C) (k : Con X.K C f v u) (l : fs.lookup f = none)
    (h : ∀ s', Inv X pins σ H s' → Q u s') : wpAny (model X.prog X.w) A (getAttr (.ref a) f b) Q E s := by
  obtain ⟨mA, O, r, _, _, _⟩ := ins_get I.hok e
  have hn : mA f = none := RelO.none_of (by rw [← l]; exact r f)
  exact get_const I.kIn O (c.get f) c.hd k.at_ k.get k.cp hn (handed_of k.rel) (h _ (I.tok _))

theorem getmeth_ok {m : Str} {g : Addr} {pl : Sem Bool} {Q : Value × List Value → Shared → Prop} (I : Inv X pins σ H s) (e : H a = some (.ins C dx fs)) (c : Cls X.K C) (k : Meth X.K C m g) (l : fs.lookup m = none)
    (h : Q (.ref g, [.ref a]) s) : wpAny (model X.prog X.w) A (getMethod (.ref a) m pl) Q E s := by
  obtain ⟨mA, O, r, _, _, _⟩ := ins_get I.hok e
  have hn : mA m = none := RelO.none_of (by rw [← l]; exact r m)
  exact get_meth I.kIn O (c.get m) k.at_ k.fn hn h

theorem setattr_ok {y : V} {u : Value} {Q : Unit → Shared → Prop} (I : Inv X pins σ H s) (e : H a = some (.ins C dx fs)) (c : Cls X.K C) (n : NoAttr X.K C f) (hl : fs.length < 1000) (ry : RelV y u)
    (h : ∀ s', Inv X pins σ (upd H a (.ins C dx (putF f y fs))) s' → Q () s') : wpAny (model X.prog X.w) A (setAttr (.ref a) f u) Q E s := by
  obtain ⟨mA, O, r, wi, _, ho⟩ := ins_get I.hok e
  have hz : (fs.map (·.1)).length ≤ sizeLine := by rw [List.length_map, sizeLine_eq]; omega
  refine set_map I.kIn O c.sa c.po n.taker c.hd wi hz fun h' O' sb => h _ ?_
  have hd : ∃ o, h'.get? dx = some o := let ⟨o, _, _, e', _⟩ := O'.ns; ⟨o, e'⟩
  refine I.write (x := a) (e := dx) (by rw [e]; exact True.intro) (.inr ho) (fun b q hb z => (sb.2 b hb).trans z) hd ?_
  refine ⟨by rw [upd_ne O.ne]; exact ho, ?_, O.ne, O'.obj, _, O'.ns, fun g => ?_, fun g hg => ?_⟩
  · have := length_putF f y fs; omega
  · show RelO ((putF f y fs).lookup g) (if g = f then some u else mA g)
    rw [lookup_putF]
    by_cases q : g = f
    · rw [if_pos q, if_pos q]; exact ry
    · rw [if_neg q, if_neg q]; exact r g
  · by_cases q : g = f
    · rw [q]; exact (keys_putF f y fs).1
    · refine (keys_putF f y fs).2 g (wi g fun z => hg ?_)
      show (if g = f then some u else mA g) = none
      rw [if_neg q]; exact z

/-- a new instance, tracked, without attributes -/
theorem Inv.made (I : Inv X pins σ H s) : Inv X pins σ (upd (upd H s.heap.objs.size (.own (s.heap.objs.size + 1))) (s.heap.objs.size + 1) (.ins C s.heap.objs.size []))
    { s with heap := (s.heap.push PySem.W.emptyDict).push (PySem.W.instObj C s.heap.objs.size) } := by
  have e1 : (s.heap.push PySem.W.emptyDict).get? s.heap.objs.size = some PySem.W.emptyDict := Heap.get?_push_size s.heap rfl
  have e2 : ((s.heap.push PySem.W.emptyDict).push (PySem.W.instObj C s.heap.objs.size)).get? (s.heap.objs.size + 1) = some (PySem.W.instObj C s.heap.objs.size) := by
    have := Heap.get?_push_size (s.heap.push PySem.W.emptyDict) (o := PySem.W.instObj C s.heap.objs.size) rfl
    rwa [Heap.size_push] at this
  have e3 : (s.heap.push PySem.W.emptyDict).Ns s.heap.objs.size (fun _ => none) := ⟨PySem.W.emptyDict, #[], _, e1, rfl, (fun e he => absurd he (by simp)), fun _ => rfl⟩
  have I1 := I.laid (a := s.heap.objs.size) (o := .own (s.heap.objs.size + 1)) (h' := s.heap.push PySem.W.emptyDict) (t' := s.toks) (fun b u q => Heap.get?_push_of_some _ q) (Nat.le_refl _) ⟨_, e1⟩
  refine I1.laid (a := s.heap.objs.size + 1) (o := .ins C s.heap.objs.size []) (t' := s.toks) (fun b u q => Heap.get?_push_of_some _ q) (Nat.le_of_eq (Heap.size_push _ _)) ?_
  have ne : s.heap.objs.size ≠ s.heap.objs.size + 1 := Nat.ne_of_lt (Nat.lt_succ_self _)
  refine ⟨by rw [upd_ne ne, upd_same], Nat.zero_le _, ne, e2, fun _ => none, (Heap.Ns1.of_empty e3).at fun o q => Heap.get?_push_of_some _ q, fun _ => True.intro, fun y hy => absurd rfl hy⟩

/-- e.f where nothing but the object is asked: through attributeBase (super) and the last hold -/
theorem attr_of {prog : Program} {w : World} {env : Env} {e : Expr} {f : Str} {pos : Pos} {s : Shared} {Q : Value → Shared → Prop} (hb : attributeBase e f env (eval e env) = eval e env)
    (h : wpAny (model prog w) A (eval e env) (fun o s₁ => wpAny (model prog w) A (getAttr o f true) Q E s₁) E s) : wpAny (model prog w) A (eval (.Attribute e f pos) env) Q E s :=
  Attribute_any_ h (by rw [arm_eval_Attribute, hb])
end

/-! ### readings and rules -/
/-- e.f, an attribute of the instance -/
def tFld (K : PySem.W.Frag) (ta : TE) (f : Str) : TE := fun σ H Q => ta σ H fun x H1 => ∃ a C dx fs v, x = .ref a ∧ H1 a = some (.ins C dx fs) ∧ Cls K C ∧ NoAttr K C f ∧ fs.lookup f = some v ∧ Q v H1
/-- e.f, a constant of the class -/
def tCon (K : PySem.W.Frag) (ta : TE) (f : Str) : TE := fun σ H Q => ta σ H fun x H1 => ∃ a C dx fs v u, x = .ref a ∧ H1 a = some (.ins C dx fs) ∧ Cls K C ∧ Con K C f v u ∧ fs.lookup f = none ∧ Q v H1
/-- e.f = value -/
def sFld (K : PySem.W.Frag) (ta tv : TE) (f : Str) : TS := fun D σ H => tv σ H fun y H1 => ta σ H1 fun x H2 => ∃ a C dx fs, x = .ref a ∧ H2 a = some (.ins C dx fs) ∧ Cls K C ∧ NoAttr K C f ∧ fs.length < 1000 ∧
  D.nx σ (upd H2 a (.ins C dx (putF f y fs)))
/-- an augmented operator on two values -/
def InOp (X : Cx) (op : Operator) (rd : V → V → Hp → VK → Prop) : Prop :=
  ∀ (pins : List (Addr × Obj)) (s : Shared) (σ : St) (H : Hp) (x y : V) (u v : Value) (Q : VK), Inv X pins σ H s → RelV x u → RelV y v → rd x y H Q → wpAny (model X.prog X.w) X.A (inplaceOp op u v) (EP X pins σ Q) X.xe s
/-- e.f op= value -/
def sFldAug (K : PySem.W.Frag) (ta tv : TE) (rd : V → V → Hp → VK → Prop) (f : Str) : TS := fun D σ H => ta σ H fun x H1 => ∃ a C dx fs v, x = .ref a ∧ H1 a = some (.ins C dx fs) ∧ Cls K C ∧ NoAttr K C f ∧ fs.lookup f = some v ∧
  tv σ H1 fun y H2 => rd v y H2 fun z H3 => ∃ dx' fs', H3 a = some (.ins C dx' fs') ∧ fs'.length < 1000 ∧ D.nx σ (upd H3 a (.ins C dx' (putF f z fs')))

section
variable {X : Cx} {o e value : Expr} {f : Str} {pos pos' tpos : Pos} {ta tv : TE}
theorem pe_fld (he : PE X e ta) (hb : attributeBase e f X.env (eval e X.env) = eval e X.env) : PE X (.Attribute e f pos) (tFld X.K ta f) := by
  intro pins s σ H Q I h
  refine attr_of hb (thn (he pins s σ H _ I h) fun u s1 ⟨x, H1, I1, rx, a, C, dx, fs, v, ex, ea, c, n, l, q⟩ => ?_)
  subst ex
  obtain rfl : u = Value.ref a := rx
  exact getattr_ok I1 ea c n l fun u' s2 I2 ru => ⟨v, H1, I2, ru, q⟩
theorem pe_con (he : PE X e ta) (hb : attributeBase e f X.env (eval e X.env) = eval e X.env) : PE X (.Attribute e f pos) (tCon X.K ta f) := by
  intro pins s σ H Q I h
  refine attr_of hb (thn (he pins s σ H _ I h) fun u s1 ⟨x, H1, I1, rx, a, C, dx, fs, v, u0, ex, ea, c, k, l, q⟩ => ?_)
  subst ex
  obtain rfl : u = Value.ref a := rx
  exact getcon_ok I1 ea c k l fun s2 I2 => ⟨v, H1, I2, k.rel, q⟩
theorem ps_fld (ha : PE X o ta) (hv : PE X value tv) (hs : swapsWith value (some (.Attribute o f pos')) pos.line X.env = pure false) : PS X (.Assign [.Attribute o f pos'] value pos) (sFld X.K ta tv f) := by
  intro pins s σ H D I h
  refine plainObj_wpAny_Assign_Attribute (thn (hv pins s σ H _ I h) fun u s1 ⟨y, H1, I1, ry, q⟩ => thn (ha pins s1 σ H1 _ I1 q) fun ov s2 ⟨x, H2, I2, rx, a, C, dx, fs, ex, ea, c, n, l, q2⟩ => ?_) hs
  subst ex
  obtain rfl : ov = Value.ref a := rx
  exact setattr_ok I2 ea c n l ry fun s3 I3 => ⟨σ, _, I3, q2⟩
theorem ps_fldaug {op : Operator} {rd : V → V → Hp → VK → Prop} (ha : PE X o ta) (hv : PE X value tv) (hop : InOp X op rd) : PS X (.AugAssign (.Attribute o f tpos) op value pos) (sFldAug X.K ta tv rd f) := by
  intro pins s σ H D I h
  refine wpAny_AugAssign_AttributeAny (thn (ha pins s σ H _ I h) fun ov s1 ⟨x, H1, I1, rx, a, C, dx, fs, v, ex, ea, c, n, l, q⟩ => ?_)
  subst ex
  obtain rfl : ov = Value.ref a := rx
  refine getattr_ok I1 ea c n l fun u s2 I2 ru => thn (hv pins s2 σ H1 _ I2 q) fun w3 s3 ⟨y, H2, I3, ry, q3⟩ => thn (hop pins s3 σ H2 v y u w3 _ I3 ru ry q3) fun w4 s4 ⟨z, H3, I4, rz, dx', fs', ea', l', q4⟩ => ?_
  exact setattr_ok I4 ea' c n l' rz fun s5 I5 => ⟨σ, _, I5, q4⟩
def rAdd : V → V → Hp → VK → Prop := fun x y H Q => ∃ i j, x = .int i ∧ y = .int j ∧ Q (.int (i + j)) H
def rSub : V → V → Hp → VK → Prop := fun x y H Q => ∃ i j, x = .int i ∧ y = .int j ∧ Q (.int (i - j)) H
theorem in_add : InOp X .Add rAdd := by
  rintro pins s σ H x y u v Q I rx ry ⟨i, j, rfl, rfl, q⟩
  obtain ⟨t, rfl⟩ := (show ∃ t, u = Value.int i t from rx)
  obtain ⟨t', rfl⟩ := (show ∃ t', v = Value.int j t' from ry)
  exact PyProof.Rows.iadd_int ⟨.int (i + j), H, I.tok _, ⟨_, rfl⟩, q⟩
theorem in_sub : InOp X .Sub rSub := by
  rintro pins s σ H x y u v Q I rx ry ⟨i, j, rfl, rfl, q⟩
  obtain ⟨t, rfl⟩ := (show ∃ t, u = Value.int i t from rx)
  obtain ⟨t', rfl⟩ := (show ∃ t', v = Value.int j t' from ry)
  exact PyProof.Rows.isub_int ⟨.int (i - j), H, I.tok _, ⟨_, rfl⟩, q⟩

/-- what is between an instance and its method: the tree of a method call -/
theorem methcall_of {pl : Sem Bool} {m : Str} {apos : Pos} {args : List Expr} {pins : List (Addr × Obj)} {s : Shared} {σ : St} {H : Hp} {Q : Value → Shared → Prop} {te : TE} (he : PE X e te) (I : Inv X pins σ H s)
    (h : te σ H fun x H1 => ∃ a C dx fs g, x = .ref a ∧ H1 a = some (.ins C dx fs) ∧ Cls X.K C ∧ Meth X.K C m g ∧ fs.lookup m = none ∧
      ∀ s1, Inv X pins σ H1 s1 → wpAny (model X.prog X.w) X.A (callWith pos (.ref g) [.ref a] (backTo pos (starEach args X.env)) (backToKw pos (keywordEach [] X.env))) Q X.xe s1)
    (ht : eval (.Call (.Attribute e m apos) args [] pos) X.env = (do
      let ov ← eval e X.env
      standAt apos.atName
      let (f, first) ← holding [ov] (getMethod ov m pl)
      callWith pos f first (backTo pos (starEach args X.env)) (backToKw pos (keywordEach [] X.env)))) :
    wpAny (model X.prog X.w) X.A (eval (.Call (.Attribute e m apos) args [] pos) X.env) Q X.xe s := by
  refine PySem.W.methodCall_KW (pl := pl) (thn (he pins s σ H _ I h) fun u s1 ⟨x, H1, I1, rx, a, C, dx, fs, g, ex, ea, c, k, l, q⟩ => ?_) ht
  subst ex
  obtain rfl : u = Value.ref a := rx
  exact getmeth_ok I1 ea c k l (q s1 I1)
end

/-! ### isinstance -/
section
variable {X : Cx} {pins : List (Addr × Obj)} {σ : St} {H : Hp} {s : Shared} {A : Around} {E : Value → Shared → Prop} {Q : Value → Shared → Prop} {c : Value} {b : Bool}
/-- the type of a value, as the fragment's deciders take it; for an instance its class -/
inductive TyOf (K : PySem.W.Frag) (H : Hp) : V → Value → Prop where
  | non : TyOf K H .non (.type "NoneType")
  | bl (x : Bool) : TyOf K H (.bl x) (.type "bool")
  | int (i : Int) : TyOf K H (.int i) (.type "int")
  | str (x : Str) : TyOf K H (.str x) (.type "str")
  | flt (x : UInt64) : TyOf K H (.flt x) (.type "float")
  | lst {a : Addr} {xs : List V} (e : H a = some (.lst xs)) : TyOf K H (.ref a) (.type "list")
  | frz {a : Addr} {o : Obj} {xs : List V} (e : H a = some (.frz o (.lst xs))) : TyOf K H (.ref a) (.type "list")
  | tup {a : Addr} {xs : List V} (e : H a = some (.tup xs)) : TyOf K H (.ref a) (.type "tuple")
  | dK {a : Addr} {kvs : List (Key × V)} (e : H a = some (.dK kvs)) : TyOf K H (.ref a) (.type "dict")
  | dT {a : Addr} {kvs : List (List Key × V)} (e : H a = some (.dT kvs)) : TyOf K H (.ref a) (.type "dict")
  | ins {a C dx : Addr} {fs : List (Str × V)} (e : H a = some (.ins C dx fs)) (cl : Cls K C) (ha : PySem.W.findIn K (.ref C) "__class__" = some (some (.builtin "object.__class__")))
      (hn : PySem.W.specialIn K (.builtin "object.__class__") "__get__" = some (some (.builtin "getset_descriptor.__get__"))) (htk : PySem.W.takesIn K (.builtin "object.__class__") = some true)
      (hm : PySem.W.mroIn K C (.type "object") = some true) : TyOf K H (.ref a) (.ref C)
/-- isinstance(x, c) for one class c, a built-in or an own one: kitOne's answer -/
theorem isinst_ok {x : V} {u t : Value} (I : Inv X pins σ H s) (rx : RelV x u) (ty : TyOf X.K H x t) (e : PySem.W.kitOne X.K t c = some b) (h : ∀ tk, Q (.bool b) { s with toks := tk }) :
    wpAny (model X.prog X.w) A (call (.builtin "isinstance") [u, c]) Q E s := by
  cases ty with
  | non => cases (show u = Value.none from rx); exact PySem.W.kia_one PySem.W.kitx_none I.kIn True.intro e (fun z => nomatch z) h
  | bl y => cases (show u = Value.bool y from rx); exact PySem.W.kia_one PySem.W.kitx_bool I.kIn True.intro e (fun z => nomatch z) h
  | int i => obtain ⟨t, q⟩ := (show ∃ t, u = Value.int i t from rx); cases q; exact PySem.W.kia_one PySem.W.kitx_int I.kIn True.intro e (fun z => nomatch z) h
  | str y => obtain ⟨t, q⟩ := (show ∃ t, u = Value.str y t from rx); cases q; exact PySem.W.kia_one PySem.W.kitx_str I.kIn True.intro e (fun z => nomatch z) h
  | flt y => obtain ⟨t, q⟩ := (show ∃ t, u = Value.float y t from rx); cases q; exact PySem.W.kia_one PySem.W.kitx_float I.kIn True.intro e (fun z => nomatch z) h
  | @lst a xs ea =>
    cases (show u = Value.ref a from rx)
    obtain ⟨_, _, n, _, h1⟩ := (show ObjOk X.prog X.w H s.heap a (.lst xs) from I.hok a _ ea)
    exact PySem.W.kia_one PySem.W.kitx_list I.kIn ⟨_, h1, rfl⟩ e (fun z => nomatch z) h
  | @frz a ob xs ea =>
    cases (show u = Value.ref a from rx)
    obtain ⟨_, _, _, n, _, h1⟩ := (show ObjOk X.prog X.w H s.heap a (.frz ob (.lst xs)) from I.hok a _ ea)
    exact PySem.W.kia_one PySem.W.kitx_list I.kIn ⟨_, h1, rfl⟩ e (fun z => nomatch z) h
  | @tup a xs ea =>
    cases (show u = Value.ref a from rx)
    obtain ⟨_, _, _, p⟩ := (show ObjOk X.prog X.w H s.heap a (.tup xs) from I.hok a _ ea)
    obtain ⟨o, h1, h2, _⟩ := p
    exact PySem.W.kia_one PySem.W.kitx_tuple I.kIn ⟨o, h1, h2⟩ e (fun z => nomatch z) h
  | @dK a kvs ea =>
    cases (show u = Value.ref a from rx)
    obtain ⟨_, _, vs, _, p⟩ := (show ObjOk X.prog X.w H s.heap a (.dK kvs) from I.hok a _ ea)
    obtain ⟨o, es, ep, h1, h2, _⟩ := p
    exact PySem.W.kia_one PySem.W.kitx_dict I.kIn ⟨o, h1, h2.1⟩ e (fun z => nomatch z) h
  | @dT a kvs ea =>
    cases (show u = Value.ref a from rx)
    obtain ⟨_, _, xs, _, o, es, ep, h1, h2, _⟩ := (show ObjOk X.prog X.w H s.heap a (.dT kvs) from I.hok a _ ea)
    exact PySem.W.kia_one PySem.W.kitx_dict I.kIn ⟨o, h1, h2.1⟩ e (fun z => nomatch z) h
  | @ins a C dx fs ea cl ha hn htk hm =>
    cases (show u = Value.ref a from rx)
    obtain ⟨mA, O, _⟩ := ins_get I.hok ea
    obtain ⟨od, J, _⟩ := O.look
    exact PySem.W.kia_one (PySem.W.kitx_own (cl.get _) cl.hd ha hn htk hm) I.kIn J e (fun z => nomatch z) h
end
end L2

namespace L2
open PySem PySem.Spec PyProof.Rows

/-! ### room -/
structure Room (k : Nat) (A : Around) : Prop where
  hd : A.handled = none
  dp : A.depth + 3 * k + 5 < recursionLimit
  un : A.units + 16 * k + 200 < cLine
theorem Room.mono {j k : Nat} {A : Around} (r : Room k A) (h : j ≤ k) : Room j A := ⟨r.hd, by have := r.dp; omega, by have := r.un; omega⟩
theorem Room.deeper {k : Nat} {A : Around} (r : Room (k + 1) A) (env : Env) : Room k (A.deeper env) :=
  ⟨r.hd, by have := r.dp; show A.depth + 1 + 3 * k + 5 < _; omega, by have := r.un; show A.units + 3 + 16 * k + 200 < _; omega⟩
theorem Room.in1 {k : Nat} {A : Around} (r : Room (k + 1) A) : Room k A.in1 :=
  ⟨r.hd, by have := r.dp; show A.depth + 3 * k + 5 < _; omega, by have := r.un; show A.units + 1 + 16 * k + 200 < _; omega⟩
theorem make_depth {A : Around} {C : Addr} {us : List Value} {kw : List (Str × Value)} : (A.under (.builtin "type.__call__" ⟨.ref C :: us, kw⟩)).depth = A.depth + 1 := by
  first | rfl | simp [Around.under, Code.weight, Code.isCreation, Code.isGuard, Code.isCaller, Code.frames, Code.isFrame, guardIds]
theorem make_units {A : Around} {C : Addr} {us : List Value} {kw : List (Str × Value)} : (A.under (.builtin "type.__call__" ⟨.ref C :: us, kw⟩)).units = A.units + 1 := by
  first | rfl | simp [Around.under, Code.cUnits, Code.frames, Code.isFrame]
theorem Room.make {k : Nat} {A : Around} (r : Room (k + 1) A) (C : Addr) (us : List Value) (kw : List (Str × Value)) : Room k (A.under (.builtin "type.__call__" ⟨.ref C :: us, kw⟩)) :=
  ⟨r.hd, by have := r.dp; rw [make_depth]; omega, by have := r.un; rw [make_units]; omega⟩
theorem Room.depth {k : Nat} {A : Around} (r : Room k A) : A.depth < recursionLimit := by have := r.dp; omega
theorem Room.units {k : Nat} {A : Around} (r : Room k A) : A.units + 64 < cLine := by have := r.un; omega
theorem Room.units0 {k : Nat} {A : Around} (r : Room k A) : A.units < cLine := by have := r.un; omega

/-! ### argument lists and displays -/
def tNil : TA := fun _ H Q => Q [] H
def tCons (ta : TE) (tr : TA) : TA := fun σ H Q => ta σ H fun x H1 => tr σ H1 fun xs H2 => Q (x :: xs) H2
section
variable {X : Cx} {e : Expr} {es : List Expr} {te : TE} {t : TA} {pos : Pos}
theorem pa_nil : PA X [] tNil := fun _ _ _ _ H Q I h => Calls.spliced_nil ⟨[], H, I, .nil, h⟩
theorem pa_cons (ha : PE X e te) (hr : PA X es t) (hs : starEach (e :: es) X.env = (false, eval e X.env) :: starEach es X.env := by rfl) : PA X (e :: es) (tCons te t) := by
  intro pos pins s σ H Q I h
  rw [hs]
  show wpAny _ _ (spliced ((false, eval e X.env) :: backTo pos (starEach es X.env))) _ _ s
  refine Calls.spliced_cons (thn (ha pins s σ H _ I h) fun u s1 ⟨x, H1, I1, r1, q1⟩ => ?_)
  exact thn (hr pos pins s1 σ H1 _ I1 q1) fun us s2 ⟨xs, H2, I2, r2, q2⟩ => ⟨x :: xs, H2, I2, .cons r1 r2, q2⟩

/-- a tuple, a list of written items -/
def tTup (t : TA) : TE := fun σ H Q => t σ H fun xs H1 => xs.length ≤ sizeLine ∧ ∀ p, H1 p = none → Q (.ref p) (upd H1 p (.tup xs))
def tLst (t : TA) : TE := fun σ H Q => t σ H fun xs H1 => xs.length ≤ sizeLine ∧ ∀ p, H1 p = none → Q (.ref p) (upd H1 p (.lst xs))
theorem pe_tup {x1} (h : PA X es t) : PE X (.Tuple es x1 pos) (tTup t) := by
  intro pins s σ H Q I hq
  refine wpAny_Tuple_spliced (thn (h pos pins s σ H _ I hq) fun us s1 ⟨xs, H1, I1, r, z, q⟩ => ⟨by rw [← r.length]; exact z, ?_⟩)
  have hf : H1 s1.heap.objs.size = none := I1.hok.fresh (Nat.le_refl _)
  refine ⟨.ref s1.heap.objs.size, upd H1 s1.heap.objs.size (.tup xs), I1.laid (t' := s1.toks) (fun b u e => Heap.get?_push_of_some _ e) (Nat.le_refl _) ?_, rfl, q _ hf⟩
  exact ⟨z, us, r, ⟨_, Heap.get?_push_size _ rfl, rfl, _, rfl⟩⟩
theorem pe_lst (h : PA X es t) : PE X (.List es pos) (tLst t) := by
  intro pins s σ H Q I hq
  refine wpAny_List_spliced (thn (h pos pins s σ H _ I hq) fun us s1 ⟨xs, H1, I1, r, z, q⟩ => ⟨by rw [← r.length]; exact z, ?_⟩)
  have hf : H1 s1.heap.objs.size = none := I1.hok.fresh (Nat.le_refl _)
  refine ⟨.ref s1.heap.objs.size, upd H1 s1.heap.objs.size (.lst xs), I1.laid (t' := s1.toks) (fun b u e => Heap.get?_push_of_some _ e) (Nat.le_refl _) ?_, rfl, q _ hf⟩
  exact ⟨z, us, 0, r, Heap.get?_push_size _ rfl⟩
end

/-! ### what a def promises -/
/-- a def's promise: the bound arguments in the parameters' order, the heap, the wanted end, the wanted exception -/
abbrev Sp := List V → Hp → VK → XK → Prop
/-- how an exception lies behind a call (file 08 gives it): the callers' frames, abstract heap and state ahead of the call, the wish, the exception, the state -/
abbrev CXT := List Env → Hp → Shared → XK → Value → Shared → Prop

/-- the state at a call -/
structure Env0 (P : Program) (w : World) (K : PySem.W.Frag) (mg : Str → Option Value) (base : Heap) (A : Around) (outer : List Env) (s : Shared) (H : Hp) : Prop where
  frames : A.frames = some outer
  mod : Mod K mg base
  bs : ∀ b o, base.get? b = some o → s.heap.get? b = some o ∧ H b = none
  bsz : base.objs.size ≤ s.heap.objs.size
  funs : s.heap.FunFrames base outer
  frf : ∀ b ∈ frs outer, H b = none
  hok : HOk P w H s.heap
  bare : AllBare s.gens
/-- a call's end -/
def CE (outer : List Env) (P : Program) (w : World) (H : Hp) (s : Shared) (Q : VK) (u : Value) (s' : Shared) : Prop :=
  ∃ v H', s'.os = s.os ∧ AllBare s'.gens ∧ Un (frs outer) [] H H' s.heap s'.heap ∧ HOk P w H' s'.heap ∧ RelV v u ∧ Q v H'
def CR (CX : CXT) (outer : List Env) (P : Program) (w : World) (H : Hp) (s : Shared) (Q : VK) (E : XK) (r : Result) (s' : Shared) : Prop :=
  match r with
  | .ok (.ret u) => CE outer P w H s Q u s'
  | .ok _ => False
  | .error e => CX outer H s E e s'
structure FnOk (P : Program) (w : World) (K : PySem.W.Frag) (mg : Str → Option Value) (base : Heap) (CX : CXT) (k : Nat) (f : Addr) (fd : FuncData) (ps : List Str) (sp : Sp) : Prop where
  len : ∀ vs H Q E, sp vs H Q E → vs.length = ps.length
  run : ∀ (A : Around) (outer : List Env) (s : Shared) (H : Hp) (args : Args) (us : List Value) (vs : List V) (Q : VK) (E : XK), Room k A → Env0 P w K mg base A outer s H → BindsTo s fd args (ps.zip us) → Vals vs us → sp vs H Q E →
    codeAny (model P w) A (.call (.ref f) args) (CR CX outer P w H s Q E) s
theorem FnOk.mono {P : Program} {w : World} {K : PySem.W.Frag} {mg : Str → Option Value} {base : Heap} {CX : CXT} {j k : Nat} {f : Addr} {fd : FuncData} {ps : List Str} {sp : Sp} (F : FnOk P w K mg base CX j f fd ps sp) (h : j ≤ k) :
    FnOk P w K mg base CX k f fd ps sp := ⟨F.len, fun A outer s H args us vs Q E hr => F.run A outer s H args us vs Q E (hr.mono h)⟩
/-- a weaker promise -/
theorem FnOk.imp {P : Program} {w : World} {K : PySem.W.Frag} {mg : Str → Option Value} {base : Heap} {CX : CXT} {k : Nat} {f : Addr} {fd : FuncData} {ps : List Str} {sp sp' : Sp} (F : FnOk P w K mg base CX k f fd ps sp)
    (h : ∀ vs H Q E, sp' vs H Q E → sp vs H Q E) : FnOk P w K mg base CX k f fd ps sp' :=
  ⟨fun vs H Q E q => F.len vs H Q E (h _ _ _ _ q), fun A outer s H args us vs Q E hr he hb hv hs => F.run A outer s H args us vs Q E hr he hb hv (h _ _ _ _ hs)⟩

theorem Env0.make {P : Program} {w : World} {K : PySem.W.Frag} {mg : Str → Option Value} {base : Heap} {A : Around} {outer : List Env} {s : Shared} {H : Hp} (e : Env0 P w K mg base A outer s H) (C : Addr) (us : List Value) (kw : List (Str × Value)) :
    Env0 P w K mg base (A.under (.builtin "type.__call__" ⟨.ref C :: us, kw⟩)) outer s H := ⟨by first | exact e.frames | (simpa [Around.under, Code.envs, Code.isFrame, pushEnvs] using e.frames), e.mod, e.bs, e.bsz, e.funs, e.frf, e.hok, e.bare⟩
theorem Env0.in1 {P : Program} {w : World} {K : PySem.W.Frag} {mg : Str → Option Value} {base : Heap} {A : Around} {outer : List Env} {s : Shared} {H : Hp} (e : Env0 P w K mg base A outer s H) :
    Env0 P w K mg base A.in1 outer s H := ⟨e.frames, e.mod, e.bs, e.bsz, e.funs, e.frf, e.hok, e.bare⟩

section
variable {X : Cx} {pins : List (Addr × Obj)} {σ : St} {H : Hp} {s s' : Shared}
/-- from a body: what a callee wants -/
theorem Inv.env0 (I : Inv X pins σ H s) : Env0 X.prog X.w X.K X.mg X.base X.A X.stack s H :=
  ⟨I.ok.frames, I.ok.mod, I.bs, Nat.le_trans I.ok.bsz I.sz, I.stack, I.stkFree, I.hok, I.bare⟩
/-- behind a call -/
theorem Inv.after {Q : VK} {u : Value} (I : Inv X pins σ H s) (h : CE X.stack X.prog X.w H s Q u s') : EP X pins σ Q u s' := by
  obtain ⟨v, H', os, bare, un, hok, r, q⟩ := h
  obtain ⟨hh, g, d, t, os'⟩ := s'
  obtain rfl : os' = s.os := os
  exact ⟨v, H', I.call (h' := hh) (g' := g) (d' := d) (t' := t) (ch := []) un hok bare (fun b z => absurd z (by simp)), r, q⟩
end

/-! ### calls -/
/-- f(..): the written arguments, then the defaults dvs; E: what is wanted of an exception -/
def tCall (sp : Sp) (dvs : List V) (E : XK) (t : TA) : TE := fun σ H Q => t σ H fun vs H1 => sp (vs ++ dvs) H1 Q E
/-- o.m(..) of an instance of the class at C -/
def tMeth (C : Addr) (m : Str) (sp : Sp) (dvs : List V) (E : XK) (ta : TE) (t : TA) : TE := fun σ H Q => ta σ H fun x H1 => ∃ a dx fs, x = .ref a ∧ H1 a = some (.ins C dx fs) ∧ fs.lookup m = none ∧
  t σ H1 fun vs H2 => sp (x :: (vs ++ dvs)) H2 Q E
/-- C(..): a new instance and its dict, then __init__ -/
def tMake (C : Addr) (sp : Sp) (dvs : List V) (E : XK) (t : TA) : TE := fun σ H Q => t σ H fun vs H1 => ∀ x dx, H1 x = none → H1 dx = none → dx ≠ x →
  sp (.ref x :: (vs ++ dvs)) (upd (upd H1 dx (.own x)) x (.ins C dx [])) (fun v H2 => v = .non ∧ Q (.ref x) H2) E

/-- how the parameters are bound: us the positional arguments, kw the keywords' values by name, ds the defaults that fill up -/
def Binds (K : PySem.W.Frag) (fd : FuncData) (ps : List Str) (ds : List Value) : Prop :=
  ∀ (s : Shared) (us : List Value), K.In s.heap → (us ++ ds).length = ps.length → BindsTo s fd ⟨us, []⟩ (ps.zip (us ++ ds))
/-- every parameter is given -/
theorem Binds.all {K : PySem.W.Frag} {fd : FuncData} {ps : List Str} (h : ∀ us : List Value, us.length = ps.length → bindArgs fd ⟨us, []⟩ = pure (ps.zip us)) : Binds K fd ps [] := fun s us _ hl => by
  rw [List.append_nil] at hl ⊢
  exact .of_eq (h us hl)

/-- an exception of a callee reaches what this body wants of exceptions -/
def Passes (CX : CXT) (X : Cx) (E : XK) : Prop := ∀ (pins : List (Addr × Obj)) (σ : St) (H : Hp) (s : Shared) (e : Value) (s' : Shared), Inv X pins σ H s → CX X.stack H s E e s' → X.xe e s'

section
variable {X : Cx} {CX : CXT} {k : Nat} {f C : Addr} {fd : FuncData} {ps : List Str} {sp : Sp} {dvs : List V} {ds : List Value} {E : XK} {x m : Str} {p pos apos : Pos} {e o : Expr} {es : List Expr} {ta : TE} {t : TA}

/-- the callee runs -/
theorem run_fn {pins : List (Addr × Obj)} {σ : St} {H : Hp} {s : Shared} {Q : VK} {us : List Value} {vs : List V} (F : FnOk X.prog X.w X.K X.mg X.base CX k f fd ps sp) (hr : Room k X.A) (hb : Binds X.K fd ps ds) (hd : Vals dvs ds) (hx : Passes CX X E)
    (I : Inv X pins σ H s) (r : Vals vs us) (h : sp (vs ++ dvs) H Q E) : wpAny (model X.prog X.w) X.A (call (.ref f) us) (EP X pins σ Q) X.xe s := by
  have r2 : Vals (vs ++ dvs) (us ++ ds) := r.append hd
  have hl : (us ++ ds).length = ps.length := by rw [← r2.length]; exact F.len _ _ _ _ h
  refine wpAny_call (codeAny_mono (F.run X.A X.stack s H ⟨us, []⟩ (us ++ ds) (vs ++ dvs) Q E hr I.env0 (hb s us I.kIn hl) r2 h) fun r s' hq => ?_)
  cases r with
  | error e => exact hx pins σ H s e s' I hq
  | ok fl =>
    cases fl with
    | ret u => exact I.after hq
    | next => exact False.elim hq
    | brk => exact False.elim hq
    | cont => exact False.elim hq

theorem pe_call (F : FnOk X.prog X.w X.K X.mg X.base CX k f fd ps sp) (hr : Room k X.A) (hg : Gl X x) (hm : X.mg x = some (.ref f)) (hk : PySem.W.keepIn X.K (.ref f) = true) (hb : Binds X.K fd ps ds) (hd : Vals dvs ds) (hx : Passes CX X E)
    (ha : PA X (e :: es) t) (hdb : (x == ("__debug__" : Str)) = false := by decide) (he : starEach (e :: es) X.env = (false, eval e X.env) :: starEach es X.env := by rfl) (hpl : (backTo pos (starEach es X.env)).any (·.1) = false := by rfl) :
    PE X (.Call (.Name x p) (e :: es) [] pos) (tCall sp dvs E t) := by
  intro pins s σ H Q I h
  refine wpAny_Call_Name_kw (ld_glob I hg hm ?_ hdb)
  refine PySem.W.callWith_K (h₀ := X.base) I.ok.mod.kin hk (thn (ha pos pins s σ H _ I h) fun us s1 ⟨vs, H1, I1, r, q⟩ => ⟨I1.kIn, ?_⟩) he hpl
  exact run_fn F hr hb hd hx I1 r q
theorem pe_call0 (F : FnOk X.prog X.w X.K X.mg X.base CX k f fd ps sp) (hr : Room k X.A) (hg : Gl X x) (hm : X.mg x = some (.ref f)) (hk : PySem.W.keepIn X.K (.ref f) = true) (hb : Binds X.K fd ps ds) (hd : Vals dvs ds) (hx : Passes CX X E)
    (hdb : (x == ("__debug__" : Str)) = false := by decide) : PE X (.Call (.Name x p) [] [] pos) (tCall sp dvs E tNil) := by
  intro pins s σ H Q I h
  refine wpAny_Call_Name_kw (ld_glob I hg hm ?_ hdb)
  exact PySem.W.callWith_K0 I.kIn hk (run_fn (us := []) F hr hb hd hx I .nil h)

/-- o.m(e, ..) -/
theorem pe_meth {pl : Sem Bool} (he : PE X o ta) (c : Cls X.K C) (hm : Meth X.K C m f) (F : FnOk X.prog X.w X.K X.mg X.base CX k f fd ps sp) (hr : Room k X.A) (hb : Binds X.K fd ps ds) (hd : Vals dvs ds) (hx : Passes CX X E) (ha : PA X (e :: es) t)
    (hst : starEach (e :: es) X.env = (false, eval e X.env) :: starEach es X.env := by rfl) (hpl : (backTo pos (starEach es X.env)).any (·.1) = false := by rfl)
    (ht : eval (.Call (.Attribute o m apos) (e :: es) [] pos) X.env = (do
      let ov ← eval o X.env
      standAt apos.atName
      let (f, first) ← holding [ov] (getMethod ov m pl)
      callWith pos f first (backTo pos (starEach (e :: es) X.env)) (backToKw pos (keywordEach [] X.env))) := by rfl) :
    PE X (.Call (.Attribute o m apos) (e :: es) [] pos) (tMeth C m sp dvs E ta t) := by
  intro pins s σ H Q I h
  refine PySem.W.methodCall_KW (pl := pl) (thn (he pins s σ H _ I h) fun u s1 ⟨x, H1, I1, rx, a, dx, fs, ex, ea, l, q⟩ => ?_) ht
  subst ex
  obtain rfl : u = Value.ref a := rx
  refine getmeth_ok I1 ea c hm l ?_
  refine PySem.W.callWith_K (first := [.ref a]) (h₀ := X.base) I.ok.mod.kin hm.kp (thn (ha pos pins s1 σ H1 _ I1 q) fun us s2 ⟨vs, H2, I2, r, q2⟩ => ⟨I2.kIn, ?_⟩) hst hpl
  exact run_fn (us := .ref a :: us) (vs := .ref a :: vs) F hr hb hd hx I2 (.cons rfl r) q2
/-- o.m() -/
theorem pe_meth0 {pl : Sem Bool} (he : PE X o ta) (c : Cls X.K C) (hm : Meth X.K C m f) (F : FnOk X.prog X.w X.K X.mg X.base CX k f fd ps sp) (hr : Room k X.A) (hb : Binds X.K fd ps ds) (hd : Vals dvs ds) (hx : Passes CX X E)
    (ht : eval (.Call (.Attribute o m apos) [] [] pos) X.env = (do
      let ov ← eval o X.env
      standAt apos.atName
      let (f, first) ← holding [ov] (getMethod ov m pl)
      callWith pos f first (backTo pos (starEach [] X.env)) (backToKw pos (keywordEach [] X.env))) := by rfl) :
    PE X (.Call (.Attribute o m apos) [] [] pos) (tMeth C m sp dvs E ta tNil) := by
  intro pins s σ H Q I h
  refine PySem.W.methodCall_KW (pl := pl) (thn (he pins s σ H _ I h) fun u s1 ⟨x, H1, I1, rx, a, dx, fs, ex, ea, l, q⟩ => ?_) ht
  subst ex
  obtain rfl : u = Value.ref a := rx
  refine getmeth_ok I1 ea c hm l ?_
  exact PySem.W.callWith_K0 (first := [.ref a]) I1.kIn hm.kp (run_fn (us := [.ref a]) (vs := [.ref a]) F hr hb hd hx I1 (.cons rfl .nil) q)

/-- what a class must have to be made -/
structure Mk (K : PySem.W.Frag) (C f : Addr) : Prop where
  makes : PySem.W.makesIn K C = true
  init : PySem.W.findIn K (.ref C) "__init__" = some (some (.ref f))
  fn : PySem.W.isFn K (.ref f) = true
  kp : PySem.W.keepIn K (.ref C) = true

theorem run_make {pins : List (Addr × Obj)} {σ : St} {H : Hp} {s : Shared} {Q : VK} {us : List Value} {vs : List V} (M : Mk X.K C f) (F : FnOk X.prog X.w X.K X.mg X.base CX k f fd ps sp) (hr : Room (k + 1) X.A) (hb : Binds X.K fd ps ds) (hd : Vals dvs ds)
    (hx : Passes CX X E) (I : Inv X pins σ H s) (r : Vals vs us)
    (h : ∀ x dx, H x = none → H dx = none → dx ≠ x → sp (.ref x :: (vs ++ dvs)) (upd (upd H dx (.own x)) x (.ins C dx [])) (fun v H2 => v = .non ∧ Q (.ref x) H2) E) :
    wpAny (model X.prog X.w) X.A (call (.ref C) us) (EP X pins σ Q) X.xe s := by
  have hq := h (s.heap.objs.size + 1) s.heap.objs.size (I.hok.fresh (Nat.le_succ _)) (I.hok.fresh (Nat.le_refl _)) (Nat.ne_of_lt (Nat.lt_succ_self _))
  have I2 := Inv.made (C := C) I
  have r2 : Vals (V.ref (s.heap.objs.size + 1) :: (vs ++ dvs)) (Value.ref (s.heap.objs.size + 1) :: (us ++ ds)) := .cons rfl (r.append hd)
  have hl : (Value.ref (s.heap.objs.size + 1) :: us ++ ds).length = ps.length := by
    have e := r2.length
    rw [F.len _ _ _ _ hq] at e
    exact e.symm
  refine wpAny_call (make_map (f := f) I.kIn M.makes M.init (beq_iff_eq.mp M.fn) (codeAny_mono (F.run _ X.stack _ _ ⟨Value.ref (s.heap.objs.size + 1) :: us, []⟩ (Value.ref (s.heap.objs.size + 1) :: (us ++ ds)) _ _ E (hr.make C us [])
    (I2.env0.make C us []) (hb _ (Value.ref (s.heap.objs.size + 1) :: us) I2.kIn hl) r2 hq) fun r s' hq' => ?_))
  cases r with
  | error e => exact hx pins σ _ _ e s' I2 hq'
  | ok fl =>
    cases fl with
    | ret u =>
      obtain ⟨v, H', I3, rv, ev, q3⟩ := I2.after hq'
      subst ev
      exact ⟨rv, ⟨V.ref (s.heap.objs.size + 1), H', I3, rfl, q3⟩⟩
    | next => exact False.elim hq'
    | brk => exact False.elim hq'
    | cont => exact False.elim hq'
theorem pe_make (M : Mk X.K C f) (F : FnOk X.prog X.w X.K X.mg X.base CX k f fd ps sp) (hr : Room (k + 1) X.A) (hg : Gl X x) (hm : X.mg x = some (.ref C)) (hb : Binds X.K fd ps ds) (hd : Vals dvs ds) (hx : Passes CX X E)
    (ha : PA X (e :: es) t) (hdb : (x == ("__debug__" : Str)) = false := by decide) (he : starEach (e :: es) X.env = (false, eval e X.env) :: starEach es X.env := by rfl) (hpl : (backTo pos (starEach es X.env)).any (·.1) = false := by rfl) :
    PE X (.Call (.Name x p) (e :: es) [] pos) (tMake C sp dvs E t) := by
  intro pins s σ H Q I h
  refine wpAny_Call_Name_kw (ld_glob I hg hm ?_ hdb)
  refine PySem.W.callWith_K (h₀ := X.base) I.ok.mod.kin M.kp (thn (ha pos pins s σ H _ I h) fun us s1 ⟨vs, H1, I1, r, q⟩ => ⟨I1.kIn, ?_⟩) he hpl
  exact run_make M F hr hb hd hx I1 r q
theorem pe_make0 (M : Mk X.K C f) (F : FnOk X.prog X.w X.K X.mg X.base CX k f fd ps sp) (hr : Room (k + 1) X.A) (hg : Gl X x) (hm : X.mg x = some (.ref C)) (hb : Binds X.K fd ps ds) (hd : Vals dvs ds) (hx : Passes CX X E)
    (hdb : (x == ("__debug__" : Str)) = false := by decide) : PE X (.Call (.Name x p) [] [] pos) (tMake C sp dvs E tNil) := by
  intro pins s σ H Q I h
  refine wpAny_Call_Name_kw (ld_glob I hg hm ?_ hdb)
  exact PySem.W.callWith_K0 I.kIn M.kp (run_make (us := []) M F hr hb hd hx I .nil h)
end

/-! ### keywords -/
/-- the values of the keywords, from the left -/
def PK (X : Cx) (kws : List Keyword) (t : TA) : Prop :=
  ∀ (pos : Pos) (pins : List (Addr × Obj)) (s : Shared) (σ : St) (H : Hp) (Q : List V → Hp → Prop), Inv X pins σ H s → t σ H Q → wpAny (model X.prog X.w) X.A (evalAll ((backToKw pos (keywordEach kws X.env)).map (·.2))) (AP X pins σ Q) X.xe s
section
variable {X : Cx} {CX : CXT} {k : Nat} {f C : Addr} {fd : FuncData} {ps ks : List Str} {sp : Sp} {E : XK} {x m : Str} {p pos apos kpos : Pos} {e o : Expr} {es : List Expr} {kws : List Keyword} {te ta : TE} {t tk : TA} {nm : Option Str}
theorem pk_nil : PK X [] tNil := fun _ _ _ _ H Q I h => wpAny_evalAll_nil ⟨[], H, I, .nil, h⟩
theorem pk_cons (ha : PE X e te) (hr : PK X kws t) : PK X (⟨nm, e, kpos⟩ :: kws) (tCons te t) := by
  intro pos pins s σ H Q I h
  show wpAny _ _ (evalAll ((do let v ← eval e X.env; standAt pos; pure v) :: (backToKw pos (keywordEach kws X.env)).map (·.2))) _ _ s
  refine wpAny_evalAll_cons (wpAny_bind (thn (ha pins s σ H _ I h) fun u s1 ⟨x, H1, I1, r1, q1⟩ => wpAny_bind (wpAny_standAt (wpAny_pure ?_))))
  exact thn (hr pos pins s1 σ H1 _ I1 q1) fun us s2 ⟨xs, H2, I2, r2, q2⟩ => ⟨x :: xs, H2, I2, .cons r1 r2, q2⟩

/-- how a call with keywords binds: g puts the positional values us and the keywords' values ws (names ks) in the parameters' order, defaults among them -/
structure KBinds (K : PySem.W.Frag) (fd : FuncData) (ps ks : List Str) (g : List Value → List Value → List Value) (gV : List V → List V → List V) : Prop where
  to : ∀ (s : Shared) (us ws : List Value), K.In s.heap → (g us ws).length = ps.length → BindsTo s fd ⟨us, ks.zip ws⟩ (ps.zip (g us ws))
  rel : ∀ {vs : List V} {us : List Value} {zs : List V} {ws : List Value}, Vals vs us → Vals zs ws → Vals (gV vs zs) (g us ws)
def tCallK (sp : Sp) (gV : List V → List V → List V) (E : XK) (t tk : TA) : TE := fun σ H Q => t σ H fun vs H1 => tk σ H1 fun zs H2 => sp (gV vs zs) H2 Q E
variable {g : List Value → List Value → List Value} {gV : List V → List V → List V}
theorem run_fnk {pins : List (Addr × Obj)} {σ : St} {H : Hp} {s : Shared} {Q : VK} {us ws : List Value} {vs zs : List V} (F : FnOk X.prog X.w X.K X.mg X.base CX k f fd ps sp) (hr : Room k X.A) (hb : KBinds X.K fd ps ks g gV) (hx : Passes CX X E)
    (I : Inv X pins σ H s) (r : Vals vs us) (rz : Vals zs ws) (h : sp (gV vs zs) H Q E) : wpAny (model X.prog X.w) X.A (call (.ref f) us (ks.zip ws)) (EP X pins σ Q) X.xe s := by
  have r2 := hb.rel r rz
  have hl : (g us ws).length = ps.length := by rw [← r2.length]; exact F.len _ _ _ _ h
  refine wpAny_call (codeAny_mono (F.run X.A X.stack s H ⟨us, ks.zip ws⟩ (g us ws) (gV vs zs) Q E hr I.env0 (hb.to s us ws I.kIn hl) r2 h) fun r s' hq => ?_)
  cases r with
  | error e => exact hx pins σ H s e s' I hq
  | ok fl =>
    cases fl with
    | ret u => exact I.after hq
    | next => exact False.elim hq
    | brk => exact False.elim hq
    | cont => exact False.elim hq
/-- f(e, .., k = v, ..) -/
theorem pe_callK (F : FnOk X.prog X.w X.K X.mg X.base CX k f fd ps sp) (hr : Room k X.A) (hg : Gl X x) (hm : X.mg x = some (.ref f)) (hk : PySem.W.keepIn X.K (.ref f) = true) (hb : KBinds X.K fd ps ks g gV) (hx : Passes CX X E)
    (ha : PA X (e :: es) t) (hkw : PK X kws tk) (hall : (backToKw pos (keywordEach kws X.env)).all (·.1.isSome) = true := by rfl) (hks : (backToKw pos (keywordEach kws X.env)).filterMap (·.1) = ks := by rfl)
    (hdb : (x == ("__debug__" : Str)) = false := by decide) (he : starEach (e :: es) X.env = (false, eval e X.env) :: starEach es X.env := by rfl)
    (hpl : ((backTo pos (starEach (e :: es) X.env)).any (·.1) || (backToKw pos (keywordEach kws X.env)).any (·.1.isNone)) = false := by rfl) :
    PE X (.Call (.Name x p) (e :: es) kws pos) (tCallK sp gV E t tk) := by
  intro pins s σ H Q I h
  refine wpAny_Call_Name_kw (ld_glob I hg hm ?_ hdb)
  refine PySem.W.callWith_KW (h₀ := X.base) I.ok.mod.kin hk hall (thn (ha pos pins s σ H _ I h) fun us s1 ⟨vs, H1, I1, r, q⟩ => ?_) hpl he
  refine thn (hkw pos pins s1 σ H1 _ I1 q) fun ws s2 ⟨zs, H2, I2, rz, q2⟩ => ⟨I2.kIn, ?_⟩
  rw [hks]
  exact run_fnk F hr hb hx I2 r rz q2
end

/-! ### a def's body keeps its promise -/
/-- names: the parameters first -/
structure FnScope (N P : List Str) (sc : Scope) : Prop where
  kind : sc.kind = .function
  co : sc.isCoroutine = false
  gen : sc.isGenerator = false
  nd : N.Nodup
  pre : N.take P.length = P
  par : ∀ x ∈ P, sc.names.lookup x = some .local ∨ sc.names.lookup x = some .cell
  nofree : ∀ y ∈ sc.names, y.2 ≠ .free

theorem bindL_out {kindOf : Str → Option NameKind} {x : Str} : ∀ {binds : List (Str × Value)} {m : Str → Option Value}, (∀ v, (x, v) ∉ binds) → bindL kindOf binds m x = m x
  | [], _, _ => rfl
  | (n, v) :: r, m, h => by
    unfold bindL
    rw [bindL_out fun w hw => h w (List.mem_cons_of_mem _ hw)]
    split
    · have : x ≠ n := by rintro rfl; exact h v List.mem_cons_self
      simp [this]
    · rfl
theorem bindC_out {kindOf : Str → Option NameKind} {x : Str} : ∀ {binds : List (Str × Value)} {m : Str → Option Value}, (∀ v, (x, v) ∉ binds) → bindC kindOf binds m x = m x
  | [], _, _ => rfl
  | (n, v) :: r, m, h => by
    unfold bindC
    rw [bindC_out fun w hw => h w (List.mem_cons_of_mem _ hw)]
    split
    · rfl
    · have : x ≠ n := by rintro rfl; exact h v List.mem_cons_self
      simp [this]
theorem bindL_get {kindOf : Str → Option NameKind} {x : Str} {v : Value} : ∀ {P : List Str} {vs : List Value} {i : Nat} {m : Str → Option Value}, P.Nodup → P[i]? = some x → vs[i]? = some v → kindOf x = some .local →
    bindL kindOf (P.zip vs) m x = some v
  | [], _, _, _, _, h, _, _ => by simp at h
  | _ :: _, [], _, _, _, _, h, _ => by simp at h
  | p :: P, w :: vs, 0, m, nd, h1, h2, hk => by
    simp at h1 h2; subst h1; subst h2
    show bindL kindOf ((p, w) :: P.zip vs) m p = _
    unfold bindL
    rw [bindL_out fun v hv => (List.nodup_cons.mp nd).1 (List.of_mem_zip hv).1, if_pos hk]
    simp
  | p :: P, w :: vs, i + 1, m, nd, h1, h2, hk => by
    show bindL kindOf ((p, w) :: P.zip vs) m x = _
    unfold bindL
    exact bindL_get (i := i) (List.nodup_cons.mp nd).2 (by simpa using h1) (by simpa using h2) hk
theorem bindC_get {kindOf : Str → Option NameKind} {x : Str} {v : Value} : ∀ {P : List Str} {vs : List Value} {i : Nat} {m : Str → Option Value}, P.Nodup → P[i]? = some x → vs[i]? = some v → kindOf x ≠ some .local →
    bindC kindOf (P.zip vs) m x = some v
  | [], _, _, _, _, h, _, _ => by simp at h
  | _ :: _, [], _, _, _, _, h, _ => by simp at h
  | p :: P, w :: vs, 0, m, nd, h1, h2, hk => by
    simp at h1 h2; subst h1; subst h2
    show bindC kindOf ((p, w) :: P.zip vs) m p = _
    unfold bindC
    rw [bindC_out fun v hv => (List.nodup_cons.mp nd).1 (List.of_mem_zip hv).1, if_neg hk]
    simp
  | p :: P, w :: vs, i + 1, m, nd, h1, h2, hk => by
    show bindC kindOf ((p, w) :: P.zip vs) m x = _
    unfold bindC
    exact bindC_get (i := i) (List.nodup_cons.mp nd).2 (by simpa using h1) (by simpa using h2) hk

/-- the names' values at the entry -/
def start (N : List Str) (vs : List V) : St := vs.map some ++ List.replicate (N.length - vs.length) none

/-- the context of a def's body, at its entry; an exception leaves the frame, then lies as CX says -/
def cxOf (CX : CXT) (P : Program) (w : World) (K : PySem.W.Frag) (mg : Str → Option Value) (base : Heap) (N : List Str) (qual : Str) (scope : Scope) (f : Addr) (cd : Value) (A : Around) (outer : List Env) (s : Shared) (H : Hp) (E : XK) : Cx where
  prog := P
  w := w
  K := K
  mg := mg
  base := base
  A := A.deeper (envOfC qual scope s.heap.objs.size f cd)
  N := N
  s₀ := s
  H₀ := H
  env := envOfC qual scope s.heap.objs.size f cd
  outer := outer
  stack := envOfC qual scope s.heap.objs.size f cd :: outer
  ex := []
  calm := true
  fn := fun _ => true
  pn := []
  xe := fun e s' => wpAny (model P w) (A.deeper (envOfC qual scope s.heap.objs.size f cd)) (leaving (envOfC qual scope s.heap.objs.size f cd) e) (fun _ s'' => CX outer H s E e s'') (fun e' s'' => CX outer H s E e' s'') s'

theorem cell_has {sc : Scope} {n : Nat} {x : Str} (h : sc.names.lookup x = some .cell) : ∃ c, (cellsFrom n sc.names []).lookup x = some c := by
  have q := PySem.W.cellsFrom_some sc.names n [] (.inl h)
  exact Option.isSome_iff_exists.mp q

theorem inv_start {CX : CXT} {P : Program} {w : World} {K : PySem.W.Frag} {mg : Str → Option Value} {base : Heap} {N ps : List Str} {qual : Str} {scope : Scope} {f : Addr} {cd : Value} {A : Around} {outer : List Env} {s s1 : Shared} {H : Hp} {E : XK} {us : List Value} {vs : List V}
    (S : FnScope N ps scope) (hd : A.handled = none) (e0 : Env0 P w K mg base A outer s H) (hl : vs.length = ps.length) (r : Vals vs us)
    (x : InCallC s s.heap.objs.size (bindL (envOfC qual scope s.heap.objs.size f cd).kindOf (ps.zip us) fun _ => none) (cellsFrom (s.heap.objs.size + 1) scope.names []) (bindC (envOfC qual scope s.heap.objs.size f cd).kindOf (ps.zip us) fun _ => none) s1) :
    Inv (cxOf CX P w K mg base N qual scope f cd A outer s H E) [] (start N vs) H s1 := by
  have hpl : ps.length ≤ N.length := by have := congrArg List.length S.pre; rw [List.length_take] at this; omega
  obtain ⟨h1, tk, rfl, hk⟩ := x.done
  have noA : ∀ b : Addr, b ∉ (cxOf CX P w K mg base N qual scope f cd A outer s H E).ex := fun b z => absurd (show b ∈ ([] : List Addr) from z) (by simp)
  refine ⟨⟨e0.mod, S.kind, rfl, rfl, Nat.le_refl _, fun y z c h1 h2 => ?_, fun y hy => ?_, fun y c _ h => ?_, fun _ => hd, Around.frames_deeper e0.frames, .inr ⟨rfl, rfl⟩, fun b z => absurd z (noA b), e0.bs, e0.bsz, fun b _ _ => noA b, fun b z => absurd z (noA b), e0.funs, e0.frf⟩,
    rfl, e0.bare, Un.kept hk, ⟨_, x.toInCall.ns, fun i y v h1 h2 h3 => ?_⟩, fun y c h => ⟨_, x.cell y c h⟩, e0.hok.fresh (Nat.le_refl _), fun y c h => ?_, fun p hp => absurd (show p ∈ ([] : List (Addr × Obj)) from hp) (by simp), e0.hok.kept hk, ?_⟩
  · exact name_of_addr x.apart (PySem.mem_of_lookup h1) (PySem.mem_of_lookup h2)
  · have hy : scope.names.lookup y = some .cell ∨ scope.names.lookup y = some .free := hy
    rcases hy with hy | hy
    · exact cell_has hy
    · exact absurd rfl (S.nofree _ (PySem.mem_of_lookup hy))
  · exact Nat.le_of_lt (x.above y c (PySem.mem_of_lookup h))
  · have hi : i < vs.length := by
      unfold start at h2
      by_cases hi : i < vs.length
      · exact hi
      · rw [List.getElem?_append_right (by simpa using hi)] at h2
        rw [List.getElem?_replicate] at h2
        split at h2 <;> cases h2
    have ha : vs[i]? = some v := by
      unfold start at h2
      rw [List.getElem?_append_left (by simpa using hi), List.getElem?_map] at h2
      cases e : vs[i]? with
      | none => rw [e] at h2; cases h2
      | some a => rw [e] at h2; cases h2; rfl
    obtain ⟨u, hu, rv⟩ := r.get ha
    have hp : ps[i]? = some y := by
      rw [← S.pre, List.getElem?_take_of_lt (by omega)]; exact h1
    have ndP : ps.Nodup := by rw [← S.pre]; exact S.nd.sublist (List.take_sublist _ _)
    refine ⟨u, rv, ?_⟩
    rcases S.par y (List.mem_of_getElem? hp) with k | k
    · exact .inl ⟨k, bindL_get ndP hp hu k⟩
    · obtain ⟨c, e⟩ := cell_has (n := s.heap.objs.size + 1) k
      refine .inr ⟨.inl k, c, e, ?_⟩
      have q := x.cell y c e
      rw [bindC_get ndP hp hu (by show scope.names.lookup y ≠ _; rw [k]; decide)] at q
      exact q
  · exact e0.hok.fresh (Nat.le_of_lt (x.above y c (PySem.mem_of_lookup h)))
  · unfold start
    show _ = N.length
    rw [List.length_append, List.length_map, List.length_replicate]
    omega

/-- THE RULE: a def (or a method) of the text, by its body. The body's reading t is chosen for each entry; it is run at the parameters' values -/
theorem fn_of {CX : CXT} {P : Program} {w : World} {K : PySem.W.Frag} {mg : Str → Option Value} {base : Heap} {k : Nat} {f : Addr} {name qual : Str} {params : Arguments} {body : List Stmt} {scope : Scope} {dV kV doc pm cdv ct oc : Value} {an od : Option Addr}
    {osl : Array (Option Value)} {N ps : List Str} {sp : Sp} (lk : K.lookup f = some ⟨oc, od, .func (PySem.W.fnOf name qual params body scope dV kV doc pm an cdv ct), osl⟩) (hcd : PySem.W.codeIn K cdv qual = true) (S : FnScope N ps scope)
    (len : ∀ vs H Q E, sp vs H Q E → vs.length = ps.length)
    (hbody : ∀ (A : Around) (outer : List Env) (s : Shared) (H : Hp) (vs : List V) (Q : VK) (E : XK), Room k (A.deeper (envOfC qual scope s.heap.objs.size f cdv)) → sp vs H Q E →
      ∃ t, PSs (cxOf CX P w K mg base N qual scope f cdv A outer s H E) body t ∧ t { nx := fun _ H' => Q .non H', rt := Q } (start N vs) H) :
    FnOk P w K mg base CX (k + 1) f (PySem.W.fnOf name qual params body scope dV kV doc pm an cdv ct) ps sp := by
  refine ⟨len, fun A outer s H args us vs Q E hr e0 hb r hsp => ?_⟩
  have hl := len _ _ _ _ hsp
  have KX : K.In s.heap := e0.mod.kin.keeps fun b o e => (e0.bs b o e).1
  have lim : s.heap.NoLimit := e0.mod.nolimit.keeps fun b o e => (e0.bs b o e).1
  have hkind : ∀ y ∈ ps.zip us, scope.names.lookup y.1 = some .local ∨ (scope.names.lookup y.1 = some .cell ∧ ((cellsFrom (s.heap.objs.size + 1) scope.names []).lookup y.1).isSome = true) := fun ⟨n, v⟩ hy => by
    rcases S.par n (List.of_mem_zip hy).1 with q | q
    · exact .inl q
    · exact .inr ⟨q, PySem.W.cellsFrom_some _ _ _ (.inl q)⟩
  refine codeAny_call_function hr.depth (KX _ _ lk) rfl S.co S.gen rfl (PySem.W.codeRec_of KX hcd) (hb _ _ _ _ ?_)
  refine wpAny_newFunctionEnv_cells S.kind hkind fun env he s1 x => ?_
  subst he
  refine ⟨lim.keeps x.toInCall.keep, codeAny_func ?_⟩
  obtain ⟨t, ht, hq⟩ := hbody A outer s H vs Q E (hr.deeper _) hsp
  have I : Inv (cxOf CX P w K mg base N qual scope f cdv A outer s H E) [] (start N vs) H s1 := inv_start S hr.hd e0 hl r x
  refine wpAny_mono (ht [] s1 (start N vs) H _ I hq) (fun fl s' hs => ?_) fun e s' hs => hs
  have fin : ∀ {σ' : St} {H' : Hp} {v : V} {u : Value}, Inv (cxOf CX P w K mg base N qual scope f cdv A outer s H E) [] σ' H' s' → RelV v u → Q v H' → CE outer P w H s Q u s' :=
    fun {σ' H' v u} J rv q => ⟨v, H', J.os, J.bare, J.base, J.hok, rv, q⟩
  cases fl with
  | ret u =>
    obtain ⟨v, σ', H', J, rv, q⟩ := hs
    exact fin J rv q
  | next =>
    obtain ⟨σ', H', J, q⟩ := hs
    exact fin (v := V.non) (u := Value.none) J rfl q
  | brk =>
    obtain ⟨_, _, _, q⟩ := hs
    exact False.elim q
  | cont =>
    obtain ⟨_, _, _, q⟩ := hs
    exact False.elim q
end L2

namespace L2
open PySem PySem.Spec PyProof.Rows
section
variable {X : Cx} {x : Str} {p pos : Pos} {e : Expr} {es : List Expr} {t : TA} {id T : String} {r : List V → Hp → VK → Prop}

def tCB (r : List V → Hp → VK → Prop) (t : TA) : TE := fun σ H Q => t σ H fun vs H1 => r vs H1 Q
/-- f(e, ..), f a built-in function -/
theorem pe_callB (hc : CallR X (.builtin id) r) (hg : Gl X x) (hm : X.mg x = none) (hv : bootBuiltins x = some (.builtin id)) (ha : PA X (e :: es) t) (hn : x ≠ "__name__" := by decide) (hdb : (x == ("__debug__" : Str)) = false := by decide)
    (he : starEach (e :: es) X.env = (false, eval e X.env) :: starEach es X.env := by rfl) (hpl : (backTo pos (starEach es X.env)).any (·.1) = false := by rfl) : PE X (.Call (.Name x p) (e :: es) [] pos) (tCB r t) := by
  intro pins s σ H Q I h
  refine wpAny_Call_Name_kw (ld_blt I hg hm hv ?_ hn hdb)
  exact PyProof.Rows.callWith_builtin1 (thn (ha pos pins s σ H _ I h) fun us s1 ⟨vs, H1, I1, r1, q1⟩ => hc pins s1 σ H1 vs us Q I1 r1 q1) he hpl
/-- T(e, ..), T a built-in type -/
theorem pe_callTy (hc : CallR X (.type T) r) (hg : Gl X x) (hm : X.mg x = none) (hv : bootBuiltins x = some (.type T)) (ha : PA X (e :: es) t) (hn : x ≠ "__name__" := by decide) (hdb : (x == ("__debug__" : Str)) = false := by decide)
    (he : starEach (e :: es) X.env = (false, eval e X.env) :: starEach es X.env := by rfl) (hpl : (backTo pos (starEach es X.env)).any (·.1) = false := by rfl) : PE X (.Call (.Name x p) (e :: es) [] pos) (tCB r t) := by
  intro pins s σ H Q I h
  refine wpAny_Call_Name_kw (ld_blt I hg hm hv ?_ hn hdb)
  exact PyProof.Rows.callWith_type1 (thn (ha pos pins s σ H _ I h) fun us s1 ⟨vs, H1, I1, r1, q1⟩ => hc pins s1 σ H1 vs us Q I1 r1 q1) he hpl
/-- T() -/
theorem pe_callTy0 (hc : CallR X (.type T) r) (hg : Gl X x) (hm : X.mg x = none) (hv : bootBuiltins x = some (.type T)) (hn : x ≠ "__name__" := by decide) (hdb : (x == ("__debug__" : Str)) = false := by decide) :
    PE X (.Call (.Name x p) [] [] pos) (tCB r tNil) := by
  intro pins s σ H Q I h
  refine wpAny_Call_Name_kw (ld_blt I hg hm hv ?_ hn hdb)
  exact PyProof.Rows.callWith_type0 (hc pins s σ H [] [] Q I .nil h)
end
end L2

namespace HT
open PySem PyProof.Rows

/-- t < u of tuples of ints -/
def lexLt : List Int → List Int → Bool
  | [], [] => false
  | [], _ :: _ => true
  | _ :: _, [] => false
  | x :: xs, y :: ys => if x = y then lexLt xs ys else decide (x < y)
theorem lexLt_cons (x y : Int) (xs ys : List Int) : lexLt (x :: xs) (y :: ys) = if x = y then lexLt xs ys else decide (x < y) := rfl
theorem lexLt_nil_nil : lexLt [] [] = false := rfl
theorem lexLt_nil_cons (y : Int) (ys : List Int) : lexLt [] (y :: ys) = true := rfl
theorem lexLt_cons_nil (x : Int) (xs : List Int) : lexLt (x :: xs) [] = false := rfl

theorem eqAt_int (A : Around) (s : Shared) (a : Int) (t : Tok) (c : Int) (u : Tok) : ∃ e, SeqAt.EqAt A s (.int a t) (.int c u) e ∧ (e = true ↔ a = c) :=
  ⟨(a == c), SeqAt.EqAt.int_int a t c u, by simp⟩
theorem rcLt_int (A : Around) (s : Shared) (a : Int) (t : Tok) (c : Int) (u : Tok) (prog : Program) (w : World) (E : Value → Shared → Prop) (Q : Value → Shared → Prop) (h : Q (.bool (decide (a < c))) s) :
    wpAny (model prog w) A (richCompare .Lt (.int a t) (.int c u)) Q E s :=
  (PyProof.Rows.lt_int h : wpAny (model prog w) A (compareOp .Lt (.int a t) (.int c u)) Q E s)

section
open PySem.SeqAt
open PySem.AutoSeq1 (wpAny_loadPart')
open PySem.MeetsSeq PySem.MeetsSeq2 PySem.MeetsSeq3

theorem tuple_lt_ints (l b : Addr) (items items2 : Array Value) (n n2 : Nat) (dd dd2 : Option Addr) (sl sl2 : Array (Option Value)) (ns ms : List Int) (hi : IntsAre items.toList ns) (hj : IntsAre items2.toList ms) :
    Meets (Builtin.«tuple.__lt__» ⟨[.ref l, .ref b], []⟩)
      (fun _ R s => s.heap.get? l = some { cls := .type "tuple", dict := dd, data := .seq items n, slots := sl } ∧ s.heap.get? b = some { cls := .type "tuple", dict := dd2, data := .seq items2 n2, slots := sl2 } ∧
        R (.ok (.ret (.bool (lexLt ns ms)))) s) :=
  .of_wp fun prog w A R s h => by
    obtain ⟨hp, g, d, tk, os⟩ := s; obtain ⟨hl, hb, h⟩ := h
    have f2 := AutoSeq1.sub_tuple_tuple
    have z1 : items.size = ns.length := by rw [← hi.length]; simp
    have z2 : items2.size = ms.length := by rw [← hj.length]; simp
    wp_walk using wpAny_loadPart' hl, wpAny_loadPart' hb, wpAny_forIn_list _ (fun rest b s' => b.1 = none ∧ s' = ⟨hp, g, d, tk, os⟩ ∧ ∃ (vs ws : List Value) (ns' ms' : List Int), rest = vs.zip ws ∧
      IntsAre vs ns' ∧ IntsAre ws ms' ∧ ns'.length + items2.size = ms'.length + items.size ∧ R (.ok (.ret (.bool (lexLt ns' ms')))) ⟨hp, g, d, tk, os⟩) _
    case turn =>
      rintro ⟨y, x⟩ rest b s' ⟨hb', rfl, vs, ws, ns', ms', hz, hvi, hwi, hlen, hR⟩
      cases hvi with
      | nil => rw [List.zip_nil_left] at hz; cases hz
      | cons a t hvi' =>
        cases hwi with
        | nil => rw [List.zip_nil_right] at hz; cases hz
        | cons c u hwi' =>
          rw [List.zip_cons_cons] at hz
          injection hz with hyx hrest
          injection hyx with hy hx
          subst hy hx
          rw [lexLt_cons] at hR
          simp only [List.length_cons] at hlen
          obtain ⟨e, he, hiff⟩ := eqAt_int A.in1 ⟨hp, g, d, tk, os⟩ a t c u
          refine wpAny_bind (he prog w _ _ ?_)
          cases e with
          | true =>
            rw [if_pos (hiff.mp rfl)] at hR
            wp_walk
            exact ⟨rfl, rfl, _, _, _, _, hrest, hvi', hwi', by omega, hR⟩
          | false =>
            rw [if_neg (fun q => absurd (hiff.mpr q) Bool.false_ne_true)] at hR
            have hri := rcLt_int A.in1 ⟨hp, g, d, tk, os⟩ a t c u prog w
            wp_walk using hri
            exact ⟨_, rfl, by simpa using hR⟩
    case fin =>
      rintro ⟨b1, b2⟩ s' ⟨hb', rfl, vs, ws, ns', ms', hz, hvi, hwi, hlen, hR⟩
      simp only at hb'
      subst hb'
      have hv : lexLt ns' ms' = decide (items.size < items2.size) := by
        cases hvi with
        | nil =>
          cases hwi with
          | nil =>
            simp only [List.length_nil] at hlen
            rw [lexLt_nil_nil]
            exact (decide_eq_false (by omega)).symm
          | cons c u hw =>
            simp only [List.length_nil, List.length_cons] at hlen
            rw [lexLt_nil_cons]
            exact (decide_eq_true (by omega)).symm
        | cons a t hv =>
          cases hwi with
          | nil =>
            simp only [List.length_nil, List.length_cons] at hlen
            rw [lexLt_cons_nil]
            exact (decide_eq_false (by omega)).symm
          | cons c u hw =>
            rw [List.zip_cons_cons] at hz
            cases hz
      rw [hv] at hR
      wp_walk
      exact ⟨_, rfl, by simpa [Builtin.Tuple.tupleCompareSizes] using hR⟩
    case h =>
      exact ⟨rfl, rfl, items.toList, items2.toList, ns, ms, rfl, hi, hj, by omega, h⟩
end

section
variable {prog : Program} {w : World} {A : Around} {E : Value → Shared → Prop} {s : Shared}

theorem lt_tupInts {l b : Addr} {items items2 : Array Value} {ns ms : List Int} {Q : Value → Shared → Prop} (hl : IsTup s.heap l items) (hb : IsTup s.heap b items2) (hi : IntsAre items.toList ns) (hj : IntsAre items2.toList ms)
    (hu : A.units < cLine) (h : Q (.bool (lexLt ns ms)) s) : wpAny (model prog w) A (compareOp .Lt (.ref l) (.ref b)) Q E s := by
  obtain ⟨⟨cls, dd, data, sl⟩, ho, hc, n, hd⟩ := id hl
  obtain ⟨⟨cls2, dd2, data2, sl2⟩, ho2, hc2, n2, hd2⟩ := id hb
  simp only at hc hd hc2 hd2
  subst hc hd hc2 hd2
  exact richCompare_meets_room (op := .Lt) ⟨_, ho, rfl⟩ ⟨_, ho2, rfl⟩ PySem.F.slot_tuple_lt PySem.F.entry_tuple_lt (PySem.F.args_tuple_lt_2 _ _) (tuple_lt_ints l b items items2 n n2 dd dd2 sl sl2 ns ms hi hj)
    ⟨ho, ho2, show Value.bool (lexLt ns ms) ≠ Value.notImplemented ∧ Q (.bool (lexLt ns ms)) s from ⟨(fun x => nomatch x), h⟩⟩ hu

/-- t + u, t not empty -/
theorem cat_tup {t b : Addr} {vs ws : List Value} {Q : Value → Shared → Prop} (ht : IsTup s.heap t vs.toArray) (hb : IsTup s.heap b ws.toArray) (hv : vs ≠ [])
    (h1 : ws = [] → Q (.ref t) s) (h2 : ws ≠ [] → Q (.ref s.heap.objs.size) { s with heap := s.heap.push { cls := .type "tuple", data := .seq (vs ++ ws).toArray } })
    (hsz : vs.length + ws.length ≤ sizeLine) : wpAny (model prog w) A (binaryOp .Add (.ref t) (.ref b)) Q E s := by
  obtain ⟨⟨cls, dd, data, sl⟩, ho, hc, n, hd⟩ := id ht
  obtain ⟨⟨cls2, dd2, data2, sl2⟩, ho2, hc2, n2, hd2⟩ := id hb
  simp only at hc hd hc2 hd2
  subst hc hd hc2 hd2
  have e : vs.toArray ++ ws.toArray = (vs ++ ws).toArray := by simp
  by_cases hw : ws = []
  · exact concat_meets ⟨_, ho, rfl⟩ ⟨_, ho2, rfl⟩ noFill_tuple_add seq_tuple_add PySem.F.slot_tuple_add PySem.F.entry_tuple_add (PySem.F.args_tuple_add_2 _ _)
      (tuple_addW1 t b vs.toArray ws.toArray n n2 dd dd2 sl sl2 (by simpa using hv) (by simp [hw])) ⟨ho, ho2, h1 hw⟩
  · refine concat_meets ⟨_, ho, rfl⟩ ⟨_, ho2, rfl⟩ noFill_tuple_add seq_tuple_add PySem.F.slot_tuple_add PySem.F.entry_tuple_add (PySem.F.args_tuple_add_2 _ _)
      (tuple_addW2 t b vs.toArray ws.toArray n n2 dd dd2 sl sl2 (by simpa using hv) (by simpa using hw) (by rw [List.size_toArray, List.size_toArray]; exact hsz)) ⟨ho, ho2, ?_⟩
    rw [e]
    exact h2 hw

/-! ### t[a:b], not the whole -/
/-- a slice's bound as a place among n (d where it is left out) -/
def sIx (n d : Nat) : Option Int → Nat
  | none => d
  | some v => if v < 0 then (v + (n : Int)).toNat else min v.toNat n
theorem sIx_none (n d : Nat) : sIx n d none = d := rfl
theorem sIx_nat (n d k : Nat) : sIx n d (some (k : Int)) = min k n := by
  show (if (k : Int) < 0 then ((k : Int) + (n : Int)).toNat else min (k : Int).toNat n) = min k n
  rw [if_neg (by omega), Int.toNat_natCast]
theorem sIx_le (n d : Nat) (hd : d ≤ n) (o : Option Int) : sIx n d o ≤ n := by
  cases o with
  | none => exact hd
  | some v =>
    show (if v < 0 then (v + (n : Int)).toNat else min v.toNat n) ≤ n
    by_cases hv : v < 0
    · rw [if_pos hv]; omega
    · rw [if_neg hv]; exact Nat.min_le_right _ _
theorem clip_eq (v : Int) (n d : Nat) : (if v < 0 then max (v + (n : Int)) 0 else min v (n : Int)) = ((sIx n d (some v) : Nat) : Int) := by
  show (if v < 0 then max (v + (n : Int)) 0 else min v (n : Int)) = (((if v < 0 then (v + (n : Int)).toNat else min v.toNat n) : Nat) : Int)
  by_cases hv : v < 0
  · simp only [if_pos hv]; omega
  · simp only [if_neg hv]; omega
theorem adjust_gen (lo hi : Option Int) (n : Nat) : Builtin.Slice.sliceAdjust lo hi 1 (n : Int) = (((sIx n 0 lo : Nat) : Int), ((sIx n n hi : Nat) : Int)) := by
  have h1 : ¬ ((1 : Int) < 0) := by omega
  unfold Builtin.Slice.sliceAdjust
  simp only [h1, if_false]
  refine Prod.ext ?_ ?_
  · cases lo with
    | none => rfl
    | some v => exact clip_eq v n 0
  · cases hi with
    | none => rfl
    | some v => exact clip_eq v n n
theorem places_gen (i j : Nat) : Builtin.Slice.slicePlaces (i : Int) (j : Int) 1 = j - i := by
  unfold Builtin.Slice.slicePlaces
  have h1 : (1 : Int) > 0 := by omega
  simp only [h1, if_true, Int.ediv_one]
  split <;> omega
theorem slicePart_ {v : Value} {o : Option Int} {Q : Option Int → Shared → Prop} (p : IsPart v o) (h : Q o s) : wpAny (model prog w) A (Builtin.Slice.slicePartIndex v) Q E s := by
  cases p with
  | none => exact slicePart_none h
  | int i t => exact slicePart_int h
theorem sliceApplied_gen {sl : Addr} {vl vu : Value} {lo hi : Option Int} {n : Nat} {Q : Int × Int × Nat → Shared → Prop} (hs : s.heap.IsSliceOf sl vl vu .none) (pl : IsPart vl lo) (pu : IsPart vu hi)
    (h : Q (((sIx n 0 lo : Nat) : Int), 1, sIx n n hi - sIx n 0 lo) s) : wpAny (model prog w) A (Builtin.Slice.sliceApplied (.ref sl) (pure (n : Int))) Q E s := by
  obtain ⟨os, hos, hcs, hds⟩ := id hs
  unfold Builtin.Slice.sliceApplied Builtin.Slice.sliceFields
  refine wpAny_bind (wpAny_bind (wpAny_field hos hds (x := vl) rfl (wpAny_bind (wpAny_field hos hds (x := vu) rfl (wpAny_bind (wpAny_field hos hds (x := .none) rfl (wpAny_pure ?_)))))))
  refine wpAny_bind (slicePart_none ?_)
  show wpAny _ _ (if ((1 : Int) == 0) = true then _ else _) _ _ s
  rw [if_neg (by decide)]
  refine wpAny_bind (slicePart_ pl (wpAny_bind (slicePart_ pu (wpAny_bind (wpAny_pure ?_)))))
  show wpAny _ _ (match Builtin.Slice.sliceAdjust lo hi 1 (n : Int) with | (lo, hi) => pure (lo, (1 : Int), Builtin.Slice.slicePlaces lo hi 1)) _ _ s
  rw [adjust_gen lo hi n]
  show wpAny _ _ (pure (((sIx n 0 lo : Nat) : Int), (1 : Int), Builtin.Slice.slicePlaces ((sIx n 0 lo : Nat) : Int) ((sIx n n hi : Nat) : Int) 1)) _ _ s
  rw [places_gen]
  exact wpAny_pure h
theorem pick_gen (xs : Array Value) (i k : Nat) : ((List.range k).filterMap fun (m : Nat) => xs[((i : Int) + (m : Int) * 1).toNat]?).toArray = ((xs.toList.drop i).take k).toArray := by
  have e : (fun (m : Nat) => xs[((i : Int) + (m : Int) * 1).toNat]?) = fun m => xs[i + m]? := by
    funext m
    have : ((i : Int) + (m : Int) * 1).toNat = i + m := by omega
    rw [this]
  rw [e]
  have := pick_run xs i k
  rw [List.filterMap_map] at this
  have e2 : ((fun x => xs[x]?) ∘ fun x => i + x) = fun m => xs[i + m]? := rfl
  rw [e2] at this
  rw [this]

theorem getItem_tuple_cut {t sl : Addr} {items : Array Value} {vl vu : Value} {lo hi : Option Int} {Q : Value → Shared → Prop} (ht : IsTup s.heap t items) (hs : s.heap.IsSliceOf sl vl vu .none) (pl : IsPart vl lo) (pu : IsPart vu hi)
    (hw : ¬ (sIx items.size 0 lo = 0 ∧ sIx items.size items.size hi = items.size))
    (h : Q (.ref s.heap.objs.size) { s with heap := s.heap.push { cls := .type "tuple", data := .seq ((items.toList.drop (sIx items.size 0 lo)).take (sIx items.size items.size hi - sIx items.size 0 lo)).toArray } })
    (hsz : items.size ≤ sizeLine) : wpAny (model prog w) A (getItem (.ref t) (.ref sl)) Q E s := by
  have htake : sizeOk (.seq ((items.toList.drop (sIx items.size 0 lo)).take (sIx items.size items.size hi - sIx items.size 0 lo)).toArray) := by
    show ((items.toList.drop (sIx items.size 0 lo)).take (sIx items.size items.size hi - sIx items.size 0 lo)).toArray.size ≤ sizeLine
    rw [List.size_toArray, List.length_take, List.length_drop, Array.length_toList]
    omega
  have hj : sIx items.size items.size hi ≤ items.size := sIx_le _ _ (Nat.le_refl _) hi
  obtain ⟨os, hos, hcs, hds⟩ := id hs
  have hTs : s.TypeIs (.ref sl) "slice" := ⟨os, hos, hcs⟩
  unfold getItem
  try with_reducible refine wpAny_holding ?_
  first | refine wpAny_bind (wpAny_pure ?_) | skip
  refine wpAny_bind (wpAny_sequenceKey ht.typeIs (by decide) ?_)
  refine wpAny_bind (wpAny_callSpecial?_slot (name := Str.ofString "__getitem__") ht.typeIs PyProof.Rows.slot_tuple_getitem
    (wpAny_call_entry PyProof.Rows.slot_tuple_getitem ht.typeIs entry_tuple_getitem ?_ (args_tuple_getitem _ _)))
  show wpAny _ _ (Builtin.Tuple.tupleItemsOf (.ref t) >>= _) _ _ s
  refine wpAny_bind (tupleItemsOf_ ht ?_)
  refine wpAny_bind (wpAny_typeOf hTs ?_)
  rw [if_pos (by decide)]
  refine wpAny_bind (sliceApplied_gen hs pl pu ?_)
  have hno : ¬ ((((sIx items.size 0 lo : Nat) : Int) == 0 && (1 : Int) == 1 && (sIx items.size items.size hi - sIx items.size 0 lo) == items.size) = true) := by
    intro q
    rw [Bool.and_eq_true, Bool.and_eq_true] at q
    have q1 : ((sIx items.size 0 lo : Nat) : Int) = 0 := eq_of_beq q.1.1
    have q2 : sIx items.size items.size hi - sIx items.size 0 lo = items.size := eq_of_beq q.2
    exact hw ⟨by omega, by omega⟩
  show wpAny _ _ (if (((sIx items.size 0 lo : Nat) : Int) == 0 && (1 : Int) == 1 && (sIx items.size items.size hi - sIx items.size 0 lo) == items.size) = true then _ else _) _ _ s
  rw [if_neg hno, pick_gen]
  first
    | exact wpAny_bind (m := Builtin.Tuple.tupleExact _) (wpAny_newObj_type (wpAny_pure ⟨_, rfl, wpAny_pure h⟩) htake)
    | exact wpAny_bind (m := Builtin.Tuple.tupleExact _) (wpAny_newObj_type (wpAny_bind (wpAny_pure (wpAny_pure ⟨_, rfl, wpAny_pure h⟩))) htake)
    | exact wpAny_bind (wpAny_bind (m := Builtin.Tuple.tupleExact _) (wpAny_newObj_type (wpAny_pure (wpAny_pure ⟨_, rfl, wpAny_pure h⟩)) htake))
    | exact wpAny_bind (wpAny_bind (m := Builtin.Tuple.tupleExact _) (wpAny_newObj_type (wpAny_pure ⟨_, rfl, wpAny_pure h⟩) htake))
end
end HT

namespace L2
open PySem PySem.Spec PyProof.Rows

/-! ### the parts of a slice -/
abbrev TO := St → Hp → (Option Int → Hp → Prop) → Prop
/-- a slice's part (left out, or an int) -/
def PO (X : Cx) (e : Option Expr) (t : TO) : Prop :=
  ∀ (pins : List (Addr × Obj)) (s : Shared) (σ : St) (H : Hp) (Q : Option Int → Hp → Prop), Inv X pins σ H s → t σ H Q →
    wpAny (model X.prog X.w) X.A (evalPart e X.env) (fun u s' => ∃ o H', Inv X pins σ H' s' ∧ IsPart u o ∧ Q o H') X.xe s
def tNoPart : TO := fun _ H Q => Q none H
def tPart (t : TE) : TO := fun σ H Q => t σ H fun x H1 => ∃ i, x = .int i ∧ Q (some i) H1

theorem intsAre_of {ns : List Int} : ∀ {us : List Value}, Vals (ns.map V.int) us → IntsAre us ns := by
  induction ns with
  | nil => intro us r; rw [List.map_nil] at r; cases r; exact .nil
  | cons n ns ih =>
    intro us r
    rw [List.map_cons] at r
    cases r with
    | cons r1 r2 =>
      obtain ⟨t, e⟩ := r1
      subst e
      exact .cons n t (ih r2)

section
variable {X : Cx} {e : Expr} {te : TE} {lo hi : Option Expr} {tl th : TO} {pos p2 : Pos}

theorem po_none : PO X none tNoPart := by
  intro pins s σ H Q I h
  rw [evalPart_none]
  exact wpAny_pure ⟨none, H, I, .none, h⟩
theorem po_some (h : PE X e te) : PO X (some e) (tPart te) := by
  intro pins s σ H Q I hw
  rw [evalPart_some]
  refine thn (h pins s σ H _ I hw) fun u s1 ⟨x, H1, I1, r1, q1⟩ => ?_
  obtain ⟨i, rfl, q⟩ := q1
  obtain ⟨t, rfl⟩ := r1
  exact ⟨some i, H1, I1, .int i t, q⟩

/-- what a slice of a value is, by values: the slice object stands at sl -/
def SlR (X : Cx) (r : V → Option Int → Option Int → Hp → VK → Prop) : Prop :=
  ∀ (pins : List (Addr × Obj)) (s : Shared) (σ : St) (H : Hp) (x : V) (v vl vu : Value) (lo hi : Option Int) (sl : Addr) (Q : VK), Inv X pins σ H s → RelV x v → s.heap.IsSliceOf sl vl vu .none → IsPart vl lo → IsPart vu hi → r x lo hi H Q →
    ∃ T id, typeLookup (.type T) "__getitem__" = pure (some (.builtin id)) ∧ s.TypeIs v T ∧ wpAny (model X.prog X.w) X.A (getItem v (.ref sl)) (EP X pins σ Q) X.xe s
theorem SlR.or {r r' : V → Option Int → Option Int → Hp → VK → Prop} (h : SlR X r) (h' : SlR X r') : SlR X (fun x lo hi H Q => r x lo hi H Q ∨ r' x lo hi H Q) := by
  intro pins s σ H x v vl vu lo hi sl Q I rx hs pl pu q
  rcases q with q | q
  · exact h pins s σ H x v vl vu lo hi sl Q I rx hs pl pu q
  · exact h' pins s σ H x v vl vu lo hi sl Q I rx hs pl pu q
def tSl (r : V → Option Int → Option Int → Hp → VK → Prop) (te : TE) (tl th : TO) : TE := fun σ H Q => te σ H fun x H1 => tl σ H1 fun l H2 => th σ H2 fun u H3 => r x l u H3 Q
/-- a[lo:hi], any a -/
theorem pe_slice {r : V → Option Int → Option Int → Hp → VK → Prop} (hr : SlR X r) (he : PE X e te) (hl : PO X lo tl) (hu : PO X hi th) : PE X (.Subscript e (.Slice lo hi none p2) pos) (tSl r te tl th) := by
  intro pins s σ H Q I h
  refine Subscript_ (thn (he pins s σ H _ I h) fun v s1 ⟨x, H1, I1, r1, q1⟩ => ?_)
  refine wpAny_Slice (thn (hl pins s1 σ H1 _ I1 q1) fun vl s2 ⟨l, H2, I2, pl, q2⟩ => thn (hu pins s2 σ H2 _ I2 q2) fun vu s3 ⟨u, H3, I3, pu, q3⟩ => ?_)
  rw [evalPart_none]
  refine wpAny_pure ?_
  have I4 : Inv X pins σ H3 { s3 with heap := s3.heap.push { cls := .type "slice", data := .fields #[vl, vu, .none] } } := I3.kept (t' := s3.toks) fun b ob q => Heap.get?_push_of_some _ q
  obtain ⟨T, id, hT, ht, hg⟩ := hr pins { s3 with heap := s3.heap.push { cls := .type "slice", data := .fields #[vl, vu, .none] } } σ H3 x v vl vu l u s3.heap.objs.size Q I4 r1 (Heap.IsSliceOf.new ..) pl pu q3
  show wpAny (model X.prog X.w) X.A (subscriptTail e (.Slice lo hi none p2) v (.ref s3.heap.objs.size)) (EP X pins σ Q) X.xe { s3 with heap := s3.heap.push { cls := .type "slice", data := .fields #[vl, vu, .none] } }
  exact tail_any (ops := [.ref s3.heap.objs.size, v]) ht hT hg (by with_unfolding_all rfl)

/-- the items of xs[lo:hi] -/
def cutV (xs : List V) (lo hi : Option Int) : List V := (xs.drop (HT.sIx xs.length 0 lo)).take (HT.sIx xs.length xs.length hi - HT.sIx xs.length 0 lo)
theorem cutV_length (xs : List V) (lo hi : Option Int) : (cutV xs lo hi).length ≤ xs.length := by
  unfold cutV
  rw [List.length_take, List.length_drop]
  omega
/-- t[lo:hi], not the whole of it (the whole would be t itself) -/
def rSlT (K : PySem.W.Frag) : V → Option Int → Option Int → Hp → VK → Prop := fun x lo hi H Q => ∃ a xs, x = .ref a ∧ SqT K H a xs ∧
  ¬ (HT.sIx xs.length 0 lo = 0 ∧ HT.sIx xs.length xs.length hi = xs.length) ∧ ∀ p, H p = none → Q (.ref p) (upd H p (.tup (cutV xs lo hi)))
theorem sl_tup : SlR X (rSlT X.K) := by
  intro pins s σ H x v vl vu lo hi sl Q I rx hs pl pu h
  obtain ⟨a, xs, rfl, hx, hw, q⟩ := h
  cases rx
  obtain ⟨its, r, ht, hz⟩ := I.tuple hx
  have hlen : its.toArray.size = xs.length := by rw [List.size_toArray]; exact r.length.symm
  refine ⟨"tuple", _, PyProof.Rows.slot_tuple_getitem.lookup, ht.typeIs, ?_⟩
  refine HT.getItem_tuple_cut ht hs pl pu (by rw [hlen]; exact hw) ?_ (by rw [hlen]; exact hz)
  rw [hlen]
  refine ⟨.ref s.heap.objs.size, _, I.laid (t' := s.toks) (o := .tup (cutV xs lo hi)) (fun b ob q => Heap.get?_push_of_some _ q) (Nat.le_refl _) ?_, rfl, q _ (I.hok.fresh (Nat.le_refl _))⟩
  exact ⟨Nat.le_trans (cutV_length xs lo hi) hz, _, (r.drop (HT.sIx xs.length 0 lo)).take (HT.sIx xs.length xs.length hi - HT.sIx xs.length 0 lo), IsTup.new _ _⟩

/-! ### t < u, t + u -/
def rLtT (K : PySem.W.Frag) : R2 := fun x y H Q => ∃ a b ns ms, x = .ref a ∧ y = .ref b ∧ SqT K H a (ns.map V.int) ∧ SqT K H b (ms.map V.int) ∧ Q (.bl (HT.lexLt ns ms)) H
theorem op_ltT (hu : X.A.units < cLine) : OpR X (compareOp .Lt) (rLtT X.K) := by
  intro pins s σ H x y v u Q I rx ry h
  obtain ⟨a, b, ns, ms, rfl, rfl, ha, hb, q⟩ := h
  cases rx
  cases ry
  obtain ⟨its, r1, p1, _⟩ := I.tuple ha
  obtain ⟨its2, r2, p2, _⟩ := I.tuple hb
  have i1 : IntsAre its.toArray.toList ns := intsAre_of r1
  have i2 : IntsAre its2.toArray.toList ms := intsAre_of r2
  exact HT.lt_tupInts p1 p2 i1 i2 hu ⟨.bl (HT.lexLt ns ms), H, I, rfl, q⟩
/-- t + u, t not empty: u empty gives t itself -/
def rCatT (K : PySem.W.Frag) : R2 := fun x y H Q => ∃ a b xs ys, x = .ref a ∧ y = .ref b ∧ SqT K H a xs ∧ SqT K H b ys ∧ xs ≠ [] ∧ xs.length + ys.length ≤ sizeLine ∧
  (ys = [] → Q (.ref a) H) ∧ (ys ≠ [] → ∀ p, H p = none → Q (.ref p) (upd H p (.tup (xs ++ ys))))
theorem Vals.nil_iff {xs : List V} {us : List Value} (r : Vals xs us) : us = [] ↔ xs = [] := by
  cases r with
  | nil => simp
  | cons _ _ => simp
theorem op_catT : OpR X (binaryOp .Add) (rCatT X.K) := by
  intro pins s σ H x y v u Q I rx ry h
  obtain ⟨a, b, xs, ys, rfl, rfl, ha, hb, hx, hz, q1, q2⟩ := h
  cases rx
  cases ry
  obtain ⟨its, r1, p1, _⟩ := I.tuple ha
  obtain ⟨its2, r2, p2, _⟩ := I.tuple hb
  refine HT.cat_tup p1 p2 (fun z => hx (r1.nil_iff.mp z)) (fun z => ⟨.ref a, H, I, rfl, q1 (r2.nil_iff.mp z)⟩) (fun z => ?_) (by rw [← r1.length, ← r2.length]; exact hz)
  refine ⟨.ref s.heap.objs.size, _, I.laid (t' := s.toks) (o := .tup (xs ++ ys)) (fun b ob q => Heap.get?_push_of_some _ q) (Nat.le_refl _) ?_, rfl, q2 (fun w => z (r2.nil_iff.mpr w)) _ (I.hok.fresh (Nat.le_refl _))⟩
  exact ⟨by rw [List.length_append]; exact hz, _, r1.append r2, IsTup.new _ _⟩
/-- tuple(t) -/
theorem call_tupleT : CallR X (.type "tuple") (fun xs H Q => ∃ a ys, xs = [.ref a] ∧ SqT X.K H a ys ∧ Q (.ref a) H) := by
  intro pins s σ H xs us Q I r h
  obtain ⟨a, ys, rfl, ha, q⟩ := h
  obtain ⟨u, rfl, ru⟩ := vals1 r
  cases ru
  obtain ⟨its, _, p1, _⟩ := I.tuple ha
  exact call_tuple_same (items := its.toArray) p1 ⟨.ref a, H, I, rfl, q⟩
end
end L2

namespace L2
open PySem PySem.Spec PyProof.Rows

/-! ### places -/
/-- the place that an index of any sign means -/
def ixN (n : Nat) (i : Int) : Option Nat := if 0 ≤ i then (if i < n then some i.toNat else none) else if -(n : Int) ≤ i then some (i + n).toNat else none
def atI {α : Type} (xs : List α) (i : Int) : Option α := (ixN xs.length i).bind fun j => xs[j]?
theorem ixN_seq {n : Nat} {i : Int} {j : Nat} (h : ixN n i = some j) : seqIndex? i n = some j ∧ j < n ∧ -(n : Int) ≤ i ∧ i < n := by
  unfold ixN at h
  by_cases h0 : 0 ≤ i
  · rw [if_pos h0] at h
    by_cases h1 : i < n
    · rw [if_pos h1] at h
      have e : i.toNat = j := Option.some.inj h
      exact ⟨by rw [seqIndex_of h0 h1, e], by omega, by omega, h1⟩
    · rw [if_neg h1] at h; cases h
  · rw [if_neg h0] at h
    by_cases h1 : -(n : Int) ≤ i
    · rw [if_pos h1] at h
      have e : (i + n).toNat = j := Option.some.inj h
      exact ⟨by rw [seqIndex_neg (by omega) h1, e], by omega, h1, by omega⟩
    · rw [if_neg h1] at h; cases h
theorem atI_get {α : Type} {xs : List α} {i : Int} {v : α} (h : atI xs i = some v) : ∃ j, seqIndex? i xs.length = some j ∧ xs[j]? = some v ∧ j < xs.length ∧ -(xs.length : Int) ≤ i ∧ i < xs.length := by
  unfold atI at h
  cases e : ixN xs.length i with
  | none => rw [e] at h; cases h
  | some j =>
    rw [e] at h
    obtain ⟨h1, h2, h3, h4⟩ := ixN_seq e
    exact ⟨j, h1, h, h2, h3, h4⟩
theorem atI_nat {α : Type} {xs : List α} {j : Nat} {v : α} (h : xs[j]? = some v) : atI xs (j : Int) = some v := by
  have hj : j < xs.length := (List.getElem?_eq_some_iff.mp h).1
  have e : ixN xs.length (j : Int) = some j := by
    unfold ixN
    rw [if_pos (by omega), if_pos (by omega)]; simp
  unfold atI; rw [e]; exact h
theorem atI_last {α : Type} (xs : List α) (v : α) : atI (xs ++ [v]) (-1) = some v := by
  have hl : (xs ++ [v]).length = xs.length + 1 := by simp
  have e : ixN (xs ++ [v]).length (-1) = some xs.length := by
    unfold ixN
    rw [hl, if_neg (by decide), if_pos (by omega)]
    congr 1
    omega
  unfold atI
  rw [e]
  show (xs ++ [v])[xs.length]? = some v
  simp

/-! ### what may be subscripted -/
/-- what stands as an index of a plain subscript -/
def PlainIx (b : Expr) : Prop := ∀ o i, subscripted b false o i = operate [o, i] (getItem o i)
/-- a subscript by values -/
def IxR (X : Cx) (r : R2) : Prop :=
  ∀ (value slice : Expr) (pins : List (Addr × Obj)) (s : Shared) (σ : St) (H : Hp) (x y : V) (v u : Value) (Q : VK), Inv X pins σ H s → RelV x v → RelV y u → r x y H Q →
    subscripted slice false v u = operate [v, u] (getItem v u) → wpAny (model X.prog X.w) X.A (subscriptTail value slice v u) (EP X pins σ Q) X.xe s
/-- a call of a builtin's method by values: the receiver, the arguments -/
def MtR (X : Cx) (id : String) (r : V → List V → Hp → VK → Prop) : Prop :=
  ∀ (pins : List (Addr × Obj)) (s : Shared) (σ : St) (H : Hp) (x : V) (xs : List V) (v : Value) (us : List Value) (Q : VK), Inv X pins σ H s → RelV x v → Vals xs us → r x xs H Q →
    wpAny (model X.prog X.w) X.A (call (.builtin id) (v :: us)) (EP X pins σ Q) X.xe s
section
variable {X : Cx} {a b : Expr} {ta tb : TE} {pos : Pos}
theorem IxR.or {r r' : R2} (h : IxR X r) (h' : IxR X r') : IxR X (fun x y H Q => r x y H Q ∨ r' x y H Q) := by
  intro value slice pins s σ H x y v u Q I rx ry q hs
  rcases q with q | q
  · exact h value slice pins s σ H x y v u Q I rx ry q hs
  · exact h' value slice pins s σ H x y v u Q I rx ry q hs
theorem MtR.or {id : String} {r r' : V → List V → Hp → VK → Prop} (h : MtR X id r) (h' : MtR X id r') : MtR X id (fun x xs H Q => r x xs H Q ∨ r' x xs H Q) := by
  intro pins s σ H x xs v us Q I rx rs q
  rcases q with q | q
  · exact h pins s σ H x xs v us Q I rx rs q
  · exact h' pins s σ H x xs v us Q I rx rs q
/-- a[b] -/
theorem pe_ix {r : R2} (hr : IxR X r) (ha : PE X a ta) (hb : PE X b tb) (hs : PlainIx b) : PE X (.Subscript a b pos) (tOp r ta tb) := by
  intro pins s σ H Q I h
  exact Subscript_ (binT ha hb I h fun v u s2 x y H2 I2 rx ry q => hr a b pins s2 σ H2 x y v u Q I2 rx ry q (hs _ _))

def rIxL (K : PySem.W.Frag) : R2 := fun x y H Q => ∃ p xs i v, x = .ref p ∧ y = .int i ∧ SqL K H p xs ∧ atI xs i = some v ∧ Q v H
def rIxT (K : PySem.W.Frag) : R2 := fun x y H Q => ∃ p xs i v, x = .ref p ∧ y = .int i ∧ SqT K H p xs ∧ atI xs i = some v ∧ Q v H
def rIxS : R2 := fun x y H Q => ∃ z i c, x = .str z ∧ y = .int i ∧ z.length ≤ sizeLine ∧ atI z.cps.toList i = some c ∧ Q (.str ⟨#[c]⟩) H
theorem ix_list : IxR X (rIxL X.K) := by
  intro value slice pins s σ H x y v u Q I rx ry h hs
  obtain ⟨p, xs, i, z, rfl, rfl, hq, he, q⟩ := h
  cases rx
  obtain ⟨t, rfl⟩ := ry
  obtain ⟨its, r, pl, hz⟩ := I.list hq
  obtain ⟨j, h1, h2, h3, h4, h5⟩ := atI_get he
  obtain ⟨w, ew, rw'⟩ := r.get h2
  have hl := r.length
  have hn := line63
  have fin : EP X pins σ Q w s := ⟨z, H, I, rw', q⟩
  by_cases h0 : 0 ≤ i
  · have hj : i.toNat = j := by
      rw [seqIndex_of h0 h5] at h1
      exact Option.some.inj h1
    exact item_listR pl.isList h0 (by omega) (by rw [hj]; simpa using ew) fin hs
  · have hj : (i + (its.toArray.size : Int)).toNat = j := by
      rw [seqIndex_neg (by omega) h4] at h1
      rw [List.size_toArray, ← hl]
      exact Option.some.inj h1
    exact subscriptTail_builtinR (x := w) pl.isList.typeIs slot_list_getitem.lookup
      (wpAny_getItem_list_neg (Q := fun r s' => r = w ∧ EP X pins σ Q r s') pl.isList (by omega) (by rw [List.size_toArray] <;> omega) (by omega) (by rw [hj]; simpa using ew) ⟨rfl, fin⟩) hs
theorem ix_tup : IxR X (rIxT X.K) := by
  intro value slice pins s σ H x y v u Q I rx ry h hs
  obtain ⟨p, xs, i, z, rfl, rfl, hq, he, q⟩ := h
  cases rx
  obtain ⟨t, rfl⟩ := ry
  obtain ⟨its, r, pl, hz⟩ := I.tuple hq
  obtain ⟨j, h1, h2, h3, h4, h5⟩ := atI_get he
  obtain ⟨w, ew, rw'⟩ := r.get h2
  have hl := r.length
  have hn := line63
  have fin : EP X pins σ Q w s := ⟨z, H, I, rw', q⟩
  exact subscriptTail_builtinR (x := w) pl.typeIs slot_tuple_getitem.lookup
    (getItem_tuple (j := j) (Q := fun r s' => r = w ∧ EP X pins σ Q r s') pl (by omega) (by omega) (by rw [List.size_toArray, ← hl]; exact h1) (by simpa using ew) ⟨rfl, fin⟩) hs
theorem ix_str : IxR X rIxS := by
  intro value slice pins s σ H x y v u Q I rx ry h hs
  obtain ⟨z, i, c, rfl, rfl, hz, he, q⟩ := h
  obtain ⟨t, rfl⟩ := rx
  obtain ⟨t', rfl⟩ := ry
  obtain ⟨j, h1, h2, h3, h4, h5⟩ := atI_get he
  have hl : z.cps.toList.length = z.length := by simp [Str.length]
  rw [hl] at h1 h4 h5
  have hn := line63
  exact tail_any (typeIs_str s z t) slot_str_getitem.lookup (getItem_str (c := c) (by
    have e1 : decide (i < -(2 ^ 63 : Int)) = false := decide_eq_false (by omega)
    have e2 : decide (i ≥ 2 ^ 63) = false := decide_eq_false (by omega)
    rw [e1, e2, Bool.or_false]) (by rw [h1]; simpa using h2) ⟨.str ⟨#[c]⟩, H, I.tok _, ⟨_, rfl⟩, q⟩) hs
/-- list, tuple or str -/
def rIx (K : PySem.W.Frag) : R2 := fun x y H Q => rIxL K x y H Q ∨ rIxT K x y H Q ∨ rIxS x y H Q
theorem ix_seq : IxR X (rIx X.K) := ix_list.or (ix_tup.or ix_str)

/-! ### xs[i] = v, any sign -/
/-- the list's object behind a store -/
theorem mapSeq_set (its : List Value) (n j : Nat) (u : Value) : Obj.mapSeq (·.setIfInBounds j u) { cls := .type "list", data := .seq its.toArray n } = { cls := .type "list", data := .seq (its.set j u).toArray n } := by
  simp [Obj.mapSeq]
theorem Inv.lst {pins : List (Addr × Obj)} {σ : St} {H : Hp} {s : Shared} {p : Addr} {xs : List V} (I : Inv X pins σ H s) (h : H p = some (.lst xs)) :
    ∃ (its : List Value) (n : Nat), Vals xs its ∧ s.heap.get? p = some { cls := .type "list", data := .seq its.toArray n } ∧ xs.length ≤ sizeLine := by
  obtain ⟨z, its, n, r, e⟩ := I.hok p _ h
  exact ⟨its, n, r, e, z⟩
/-- the list at p is written by an update of its object -/
theorem Inv.lstUpd {pins : List (Addr × Obj)} {σ : St} {H : Hp} {s : Shared} {p : Addr} {xs ys : List V} {its its' : List Value} {n n' : Nat} {f : Obj → Obj} (I : Inv X pins σ H s) (h : H p = some (.lst xs))
    (ho : s.heap.get? p = some { cls := .type "list", data := .seq its.toArray n }) (hf : f { cls := .type "list", data := .seq its.toArray n } = { cls := .type "list", data := .seq its'.toArray n' }) (r : Vals ys its') (hz : ys.length ≤ sizeLine) (t : Nat) :
    Inv X pins σ (upd H p (.lst ys)) { s with heap := s.heap.update p f, toks := t } := by
  have e : (s.heap.update p f).get? p = some { cls := .type "list", data := .seq its'.toArray n' } := by
    rw [Heap.get?_update_self f ho (by rw [hf] <;> rfl), hf]
  refine I.write (x := p) (e := p) (by rw [h]; trivial) (.inl rfl) (fun b u hb q => (Heap.get?_update_other _ _ (Ne.symm hb)).trans q) ⟨_, e⟩ ?_
  exact ⟨hz, its', n', r, e⟩
def rSetL : V → V → V → Hp → (Hp → Prop) → Prop := fun o i v H Q => ∃ p xs k j, o = .ref p ∧ i = .int k ∧ H p = some (.lst xs) ∧ ixN xs.length k = some j ∧ Q (upd H p (.lst (xs.set j v)))
theorem set_list : PSet X rSetL := by
  intro pins s σ H o i v ov iv u Q I ro ri rv h
  obtain ⟨p, xs, k, j, rfl, rfl, hp, hj, q⟩ := h
  cases ro
  obtain ⟨t, rfl⟩ := ri
  obtain ⟨its, n, r, ho, hz⟩ := I.lst hp
  obtain ⟨h1, h2, h3, h4⟩ := ixN_seq hj
  have hl := r.length
  have hn := line63
  have I' : Inv X pins σ (upd H p (.lst (xs.set j v))) { s with heap := s.heap.update p (Obj.mapSeq (·.setIfInBounds j u)) } :=
    I.lstUpd hp ho (mapSeq_set its n j u) (r.set rv j) (by rw [List.length_set]; exact hz) s.toks
  by_cases h0 : 0 ≤ k
  · have hk : k.toNat = j := by
      rw [seqIndex_of h0 h4] at h1
      exact Option.some.inj h1
    exact PySem.W.ki_setAt ho h0 (by omega) (by rw [List.size_toArray, ← hl]; exact h4) (by rw [hk]; exact ⟨_, I', q⟩)
  · have hk : (k + (its.toArray.size : Int)).toNat = j := by
      rw [seqIndex_neg (by omega) h3] at h1
      rw [List.size_toArray, ← hl]
      exact Option.some.inj h1
    exact PySem.W.ki_setBack ho (by omega) (by rw [List.size_toArray, ← hl]; exact h3) (by omega) (by rw [hk]; exact ⟨_, I', q⟩)

/-! ### slices -/
theorem slice_bounds (lo hi : Option Int) (n : Nat) : (sliceBounds lo hi none n).1 = ((HT.sIx n 0 lo : Nat) : Int) ∧ (sliceBounds lo hi none n).2.1 = ((HT.sIx n n hi : Nat) : Int) ∧ (sliceBounds lo hi none n).2.2 = 1 := by
  refine ⟨?_, ?_, rfl⟩
  · cases lo with
    | none => simp [sliceBounds, HT.sIx]
    | some i =>
      simp only [sliceBounds, HT.sIx, Option.getD_none, show (1 : Int) > 0 by decide, if_true]
      by_cases h : i < 0
      · simp only [h, if_true] <;> omega
      · simp only [h, if_false] <;> omega
  · cases hi with
    | none => simp [sliceBounds, HT.sIx]
    | some i =>
      simp only [sliceBounds, HT.sIx, Option.getD_none, show (1 : Int) > 0 by decide, if_true]
      by_cases h : i < 0
      · simp only [h, if_true] <;> omega
      · simp only [h, if_false] <;> omega
theorem slicePick_cut (its : List Value) (lo hi : Option Int) : slicePick its.toArray lo hi none = ((its.drop (HT.sIx its.length 0 lo)).take (HT.sIx its.length its.length hi - HT.sIx its.length 0 lo)).toArray := by
  obtain ⟨h1, h2, h3⟩ := slice_bounds lo hi its.toArray.size
  unfold slicePick
  rw [h1, h2, h3]
  simp only [sliceRange_one, pick_run, List.size_toArray] <;> rfl
/-- xs[lo:hi] of a list: a new list -/
def rSlL (K : PySem.W.Frag) : V → Option Int → Option Int → Hp → VK → Prop := fun x lo hi H Q => ∃ a xs, x = .ref a ∧ SqL K H a xs ∧ ∀ p, H p = none → Q (.ref p) (upd H p (.lst (cutV xs lo hi)))
theorem sl_list : SlR X (rSlL X.K) := by
  intro pins s σ H x v vl vu lo hi sl Q I rx hs pl pu h
  obtain ⟨a, xs, rfl, hx, q⟩ := h
  cases rx
  obtain ⟨its, r, ht, hz⟩ := I.list hx
  have hlen := r.length
  refine ⟨"list", _, slot_list_getitem.lookup, ht.isList.typeIs, ?_⟩
  refine wpAny_getItem_list_slice ht.isList hs pl pu .none (by simp) ?_ (by rw [List.size_toArray] <;> omega)
  rw [slicePick_cut, ← hlen]
  refine ⟨.ref s.heap.objs.size, _, I.laid (t' := s.toks) (o := .lst (cutV xs lo hi)) (fun b ob q => Heap.get?_push_of_some _ q) (Nat.le_refl _) ?_, rfl, q _ (I.hok.fresh (Nat.le_refl _))⟩
  exact ⟨Nat.le_trans (cutV_length xs lo hi) hz, _, 0, (r.drop (HT.sIx xs.length 0 lo)).take (HT.sIx xs.length xs.length hi - HT.sIx xs.length 0 lo), Heap.get?_push_size _ rfl⟩

/-! ### in, not in: flat items -/
def flatV : V → Bool
  | .non => true
  | .bl _ => true
  | .int _ => true
  | .str _ => true
  | _ => false
/-- == of flat values -/
def eqV : V → V → Bool
  | .non, .non => true
  | .bl a, .bl b => a == b
  | .bl a, .int b => (if a then 1 else 0) == b
  | .int a, .bl b => a == (if b then 1 else 0)
  | .int a, .int b => a == b
  | .str a, .str b => a == b
  | _, _ => false
theorem eqAt_V {A : Around} {s : Shared} {y x : V} {u v : Value} (ry : RelV y u) (rx : RelV x v) (fy : flatV y = true) (fx : flatV x = true) : SeqAt.EqAt A s u v (eqV y x) := by
  cases y with
  | non =>
    cases ry
    cases x with
    | non => cases rx; exact SeqAt.EqAt.same _
    | bl b => cases rx; exact SeqAt.EqAt.none_bool b
    | int b => obtain ⟨t, rfl⟩ := rx; exact SeqAt.EqAt.none_int b t
    | str b => obtain ⟨t, rfl⟩ := rx; exact SeqAt.EqAt.none_str b t
    | _ => exact absurd (show false = true from fx) Bool.false_ne_true
  | bl a =>
    cases ry
    cases x with
    | non => cases rx; exact SeqAt.EqAt.bool_none a
    | bl b => cases rx; exact SeqAt.EqAt.bool_bool a b
    | int b => obtain ⟨t, rfl⟩ := rx; exact SeqAt.EqAt.bool_int a b t
    | str b => obtain ⟨t, rfl⟩ := rx; exact SeqAt.EqAt.bool_str a b t
    | _ => exact absurd (show false = true from fx) Bool.false_ne_true
  | int a =>
    obtain ⟨t', rfl⟩ := ry
    cases x with
    | non => cases rx; exact SeqAt.EqAt.int_none a t'
    | bl b => cases rx; exact SeqAt.EqAt.int_bool a t' b
    | int b => obtain ⟨t, rfl⟩ := rx; exact SeqAt.EqAt.int_int a t' b t
    | str b => obtain ⟨t, rfl⟩ := rx; exact SeqAt.EqAt.int_str a t' b t
    | _ => exact absurd (show false = true from fx) Bool.false_ne_true
  | str a =>
    obtain ⟨t', rfl⟩ := ry
    cases x with
    | non => cases rx; exact SeqAt.EqAt.str_none a t'
    | bl b => cases rx; exact SeqAt.EqAt.str_bool a t' b
    | int b => obtain ⟨t, rfl⟩ := rx; exact SeqAt.EqAt.str_int a t' b t
    | str b => obtain ⟨t, rfl⟩ := rx; exact SeqAt.EqAt.str_str a t' b t
    | _ => exact absurd (show false = true from fx) Bool.false_ne_true
  | _ => exact absurd (show false = true from fy) Bool.false_ne_true
/-- the items' answers, read off the values (a value's own answer does not lean on its token) -/
def eqU (x : V) (u : Value) : Bool := match u with
  | .none => eqV .non x
  | .bool b => eqV (.bl b) x
  | .int i _ => eqV (.int i) x
  | .str z _ => eqV (.str z) x
  | _ => false
theorem eqU_of {x y : V} {u : Value} (r : RelV y u) (f : flatV y = true) : eqU x u = eqV y x := by
  cases y with
  | non => cases r; rfl
  | bl b => cases r; rfl
  | int i => obtain ⟨t, rfl⟩ := r; rfl
  | str z => obtain ⟨t, rfl⟩ := r; rfl
  | _ => exact absurd (show false = true from f) Bool.false_ne_true
theorem any_eqU {x : V} : ∀ {xs : List V} {us : List Value}, Vals xs us → xs.all flatV = true → us.any (eqU x) = xs.any fun y => eqV y x
  | _, _, .nil, _ => rfl
  | y :: xs, u :: us, .cons r t, f => by
    rw [List.all_cons, Bool.and_eq_true] at f
    rw [List.any_cons, List.any_cons, eqU_of r f.1, any_eqU t f.2]
theorem mem_eqAt {A : Around} {s : Shared} {x : V} {v : Value} (rx : RelV x v) (fx : flatV x = true) : ∀ {xs : List V} {us : List Value}, Vals xs us → xs.all flatV = true → ∀ u ∈ us, SeqAt.EqAt A s u v (eqU x u)
  | _, _, .nil, _ => fun u hu => by cases hu
  | y :: xs, u :: us, .cons r t, f => fun u' hu => by
    rw [List.all_cons, Bool.and_eq_true] at f
    rcases List.mem_cons.mp hu with rfl | hu
    · rw [eqU_of r f.1]; exact eqAt_V r rx f.1 fx
    · exact mem_eqAt rx fx t f.2 u' hu
def inV (x : V) (xs : List V) : Bool := xs.any fun y => eqV y x
/-- x in a list or tuple of flat items -/
def rIn (K : PySem.W.Frag) (neg : Bool) : R2 := fun x y H Q => ∃ p xs, y = .ref p ∧ (SqL K H p xs ∨ SqT K H p xs) ∧ flatV x = true ∧ xs.all flatV = true ∧ Q (.bl (if neg then !inV x xs else inV x xs)) H
theorem op_in_seq : OpR X (compareOp .In) (rIn X.K false) := by
  intro pins s σ H x y v u Q I rx ry h
  obtain ⟨p, xs, rfl, hq, fx, fs, q⟩ := h
  cases ry
  rcases hq with hq | hq
  · obtain ⟨its, r, pl, hz⟩ := I.list hq
    refine SeqAt.in_listAt (eqU x) pl.isList (fun w hw => mem_eqAt rx fx r fs w (by simpa using hw)) ⟨.bl _, H, I, rfl, ?_⟩
    rw [show its.toArray.any (eqU x) = its.any (eqU x) by simp, any_eqU r fs]
    exact q
  · obtain ⟨its, r, pl, hz⟩ := I.tuple hq
    refine SeqAt.in_tupleAt (eqU x) pl (fun w hw => mem_eqAt rx fx r fs w (by simpa using hw)) ⟨.bl _, H, I, rfl, ?_⟩
    rw [show its.toArray.any (eqU x) = its.any (eqU x) by simp, any_eqU r fs]
    exact q
theorem op_notIn_seq : OpR X (compareOp .NotIn) (rIn X.K true) := by
  intro pins s σ H x y v u Q I rx ry h
  obtain ⟨p, xs, rfl, hq, fx, fs, q⟩ := h
  cases ry
  rcases hq with hq | hq
  · obtain ⟨its, r, pl, hz⟩ := I.list hq
    refine SeqAt.notIn_listAt (eqU x) pl.isList (fun w hw => mem_eqAt rx fx r fs w (by simpa using hw)) ⟨.bl _, H, I, rfl, ?_⟩
    rw [show its.toArray.any (eqU x) = its.any (eqU x) by simp, any_eqU r fs]
    exact q
  · obtain ⟨its, r, pl, hz⟩ := I.tuple hq
    refine SeqAt.notIn_tupleAt (eqU x) pl (fun w hw => mem_eqAt rx fx r fs w (by simpa using hw)) ⟨.bl _, H, I, rfl, ?_⟩
    rw [show its.toArray.any (eqU x) = its.any (eqU x) by simp, any_eqU r fs]
    exact q
theorem op_notIn_str : OpR X (compareOp .NotIn) (fun x y H Q => ∃ i j, x = .str i ∧ y = .str j ∧ Q (.bl (!(!(Builtin.Str.occurrences j i 0 j.length 1).isEmpty))) H) := by
  intro pins s σ H x y v u Q I rx ry h
  obtain ⟨i, j, rfl, rfl, q⟩ := h
  obtain ⟨t, rfl⟩ := rx
  obtain ⟨t', rfl⟩ := ry
  exact notIn_str ⟨.bl _, H, I, rfl, q⟩

/-! ### len, list(x), tuple(x) of any list or tuple that is read -/
theorem call_len_seq : CallR X (.builtin "len") (fun xs H Q => ∃ p ys, xs = [.ref p] ∧ (SqL X.K H p ys ∨ SqT X.K H p ys) ∧ Q (.int ys.length) H) := by
  intro pins s σ H xs us Q I r h
  obtain ⟨p, ys, rfl, hq, q⟩ := h
  obtain ⟨u, rfl, rx⟩ := vals1 r
  cases rx
  have hn := line63
  rcases hq with hq | hq
  · obtain ⟨its, r', pl, hz⟩ := I.list hq
    have hlen := r'.length
    exact Calls.call_len_list pl.isList (by simp only [List.size_toArray] <;> omega) ⟨.int ys.length, H, I.tok _, ⟨s.toks + 1, by rw [List.size_toArray, hlen]⟩, q⟩
  · obtain ⟨its, r', pl, hz⟩ := I.tuple hq
    have hlen := r'.length
    exact len_tuple pl (by simp only [List.size_toArray] <;> omega) ⟨.int ys.length, H, I.tok _, ⟨s.toks + 1, by rw [List.size_toArray, hlen]⟩, q⟩
theorem call_len_str : CallR X (.builtin "len") (fun xs H Q => ∃ z, xs = [.str z] ∧ z.length ≤ sizeLine ∧ Q (.int z.length) H) := by
  intro pins s σ H xs us Q I r h
  obtain ⟨z, rfl, hz, q⟩ := h
  obtain ⟨u, rfl, t, rfl⟩ := vals1 r
  have hn := line63
  exact len_str (by omega) ⟨.int z.length, H, I.tok _, ⟨_, rfl⟩, q⟩
theorem CallR.or {f : Value} {r r' : List V → Hp → VK → Prop} (h : CallR X f r) (h' : CallR X f r') : CallR X f (fun xs H Q => r xs H Q ∨ r' xs H Q) := by
  intro pins s σ H xs us Q I rs q
  rcases q with q | q
  · exact h pins s σ H xs us Q I rs q
  · exact h' pins s σ H xs us Q I rs q
theorem call_list_of : CallR X (.type "list") (fun xs H Q => ∃ p ys, xs = [.ref p] ∧ (SqL X.K H p ys ∨ SqT X.K H p ys) ∧ ∀ l, H l = none → Q (.ref l) (upd H l (.lst ys))) := by
  intro pins s σ H xs us Q I r h
  obtain ⟨p, ys, rfl, hq, q⟩ := h
  obtain ⟨u, rfl, rx⟩ := vals1 r
  cases rx
  have fin : ∀ (its : List Value), Vals ys its → ys.length ≤ sizeLine → ∀ (h' : Heap) (c' : Nat), (∀ b o', s.heap.get? b = some o' → h'.get? b = some o') →
      h'.get? s.heap.objs.size = some { cls := .type "list", dict := none, data := .seq its.toArray c', slots := #[] } → EP X pins σ Q (.ref s.heap.objs.size) { s with heap := h' } := fun its r' hz h' c' kp e =>
    ⟨.ref s.heap.objs.size, _, I.laid (t' := s.toks) kp (Nat.le_refl _) (show ObjOk X.prog X.w _ h' _ (.lst ys) from ⟨hz, its, c', r', e⟩), rfl, q _ (I.hok.fresh (Nat.le_refl _))⟩
  rcases hq with hq | hq
  · obtain ⟨its, r', pl, hz⟩ := I.list hq
    have hlen := r'.length
    obtain ⟨o, ho, hc, n, hd⟩ := pl.isList
    exact call_list_seq p (.inl rfl) ho hc hd (fun h' c' kp e => fin its r' hz h' c' kp e) (by simp only [List.size_toArray] <;> omega)
  · obtain ⟨its, r', pl, hz⟩ := I.tuple hq
    have hlen := r'.length
    obtain ⟨o, ho, hc, n, hd⟩ := pl
    exact call_list_seq p (.inr rfl) ho hc hd (fun h' c' kp e => fin its r' hz h' c' kp e) (by simp only [List.size_toArray] <;> omega)
theorem call_tuple_of : CallR X (.type "tuple") (fun xs H Q => ∃ p ys, xs = [.ref p] ∧ ((SqL X.K H p ys ∧ ∀ l, H l = none → Q (.ref l) (upd H l (.tup ys))) ∨ (SqT X.K H p ys ∧ Q (.ref p) H))) := by
  intro pins s σ H xs us Q I r h
  obtain ⟨p, ys, rfl, h⟩ := h
  obtain ⟨u, rfl, rx⟩ := vals1 r
  cases rx
  rcases h with ⟨hq, q⟩ | ⟨hq, q⟩
  · obtain ⟨its, r', pl, hz⟩ := I.list hq
    have hlen := r'.length
    refine call_tuple_list pl.isList (fun h' kp => ?_) (by simp only [List.size_toArray] <;> omega)
    have I1 : Inv X pins σ H { s with heap := h' } := I.kept (t' := s.toks) kp
    have I2 : Inv X pins σ (upd H h'.objs.size (.tup ys)) { s with heap := h'.push { cls := .type "tuple", data := .seq its.toArray } } :=
      I1.laid (t' := s.toks) (fun b o e => Heap.get?_push_of_some _ e) (Nat.le_refl _) (show ObjOk X.prog X.w _ _ _ (.tup ys) from ⟨hz, its, r', IsTup.new _ _⟩)
    exact ⟨.ref h'.objs.size, _, I2, rfl, q _ (I1.hok.fresh (Nat.le_refl _))⟩
  · obtain ⟨its, r', pl, hz⟩ := I.tuple hq
    exact call_tuple_same pl ⟨.ref p, H, I, rfl, q⟩

/-! ### the call of a builtin's method: o.m(..) -/
/-- the value is of that builtin type -/
def tyV (K : PySem.W.Frag) (T : String) (x : V) (H : Hp) : Prop := match x with
  | .str _ => T = "str"
  | .int _ => T = "int"
  | .ref p => (T = "list" ∧ ∃ xs, SqL K H p xs) ∨ (T = "tuple" ∧ ∃ o, K.lookup p = some o ∧ o.cls = .type "tuple" ∧ o.dict = none) ∨
      (T = "dict" ∧ ((∃ kvs, H p = some (.dK kvs)) ∨ ∃ kvs, H p = some (.dT kvs))) ∨ (T = "set" ∧ ∃ S n, H p = some (.set S n))
  | _ => False
theorem tyV_is {pins : List (Addr × Obj)} {σ : St} {H : Hp} {s : Shared} {T : String} {x : V} {v : Value} (I : Inv X pins σ H s) (r : RelV x v) (ty : tyV X.K T x H) :
    s.TypeIs v T ∧ ∀ a, v = .ref a → ∃ ob, s.heap.get? a = some ob ∧ ob.dict = none := by
  cases x with
  | str z =>
    obtain ⟨t, rfl⟩ := r
    cases (show T = "str" from ty)
    exact ⟨typeIs_str s z t, fun _ e => nomatch e⟩
  | int i =>
    obtain ⟨t, rfl⟩ := r
    cases (show T = "int" from ty)
    exact ⟨typeIs_int s i t, fun _ e => nomatch e⟩
  | ref p =>
    cases r
    rcases ty with ⟨rfl, xs, hq⟩ | ⟨rfl, o, hk, hc, hd⟩ | ⟨rfl, hk⟩ | ⟨rfl, S, n, hk⟩
    · obtain ⟨its, _, pl, _⟩ := I.list hq
      refine ⟨pl.isList.typeIs, fun a e => ?_⟩
      cases e
      obtain ⟨o, n, e, c, hd, _⟩ := pl
      exact ⟨o, e, hd⟩
    · refine ⟨⟨o, I.kIn p o hk, hc⟩, fun a e => ?_⟩
      cases e
      exact ⟨o, I.kIn _ o hk, hd⟩
    · have z : ∃ o, s.heap.get? p = some o ∧ o.ExactDict := by
        rcases hk with ⟨kvs, hk⟩ | ⟨kvs, hk⟩
        · obtain ⟨_, _, _, _, o, _, _, e, ex, _⟩ := I.hok p _ hk
          exact ⟨o, e, ex⟩
        · obtain ⟨_, _, _, _, o, _, _, e, ex, _⟩ := I.hok p _ hk
          exact ⟨o, e, ex⟩
      obtain ⟨o, e, ex⟩ := z
      refine ⟨⟨o, e, ex.1⟩, fun a e2 => ?_⟩
      cases e2
      exact ⟨o, e, ex.2.1⟩
    · obtain ⟨o, _, _, _, e, ex, _⟩ := I.hok p _ hk
      refine ⟨⟨o, e, ex.1⟩, fun a e2 => ?_⟩
      cases e2
      exact ⟨o, e, ex.2.1⟩
  | _ => exact False.elim ty
def tBM0 (K : PySem.W.Frag) (T : String) (r : V → List V → Hp → VK → Prop) (to : TE) : TE := fun σ H Q => to σ H fun x H1 => tyV K T x H1 ∧ r x [] H1 Q
def tBM (K : PySem.W.Frag) (T : String) (r : V → List V → Hp → VK → Prop) (to : TE) (t : TA) : TE := fun σ H Q => to σ H fun x H1 => tyV K T x H1 ∧ t σ H1 fun xs H2 => r x xs H2 Q
variable {o e : Expr} {es : List Expr} {to : TE} {t : TA} {name : Str} {apos cpos : Pos} {T id : String} {r : V → List V → Hp → VK → Prop}
theorem pe_bm0 (pa : PlainAttrs T) (slot : Slot T name id) (hty : typeOf (.builtin id) = pure (.type "method_descriptor")) (hm : MtR X id r) (ho : PE X o to)
    (hbase : attributeBase o name X.env (eval o X.env) = eval o X.env := by rfl) (hline : (apos.endLine == cpos.line) = true := by rfl) : PE X (.Call (.Attribute o name apos) [] [] cpos) (tBM0 X.K T r to) := by
  intro pins s σ H Q I h
  refine wpAny_Call_method0_late hbase hline (thn (ho pins s σ H _ I h) fun v s1 ⟨x, H1, I1, r1, ty, q1⟩ => ?_)
  obtain ⟨h1, h2⟩ := tyV_is I1 r1 ty
  exact ⟨T, id, pa, slot, hty, h1, h2, Calls.callWith_builtin rfl (PySem.evalArgs_none (hm pins s1 σ H1 x [] v [] Q I1 r1 .nil q1))⟩
theorem pe_bm (pa : PlainAttrs T) (slot : Slot T name id) (hty : typeOf (.builtin id) = pure (.type "method_descriptor")) (hm : MtR X id r) (ho : PE X o to) (ha : PA X (e :: es) t)
    (hbase : attributeBase o name X.env (eval o X.env) = eval o X.env := by rfl)
    (hfew : ((backTo cpos (starEach (e :: es) X.env)).all (fun x => !x.1) && (backToKw cpos (keywordEach [] X.env)).all (fun x => x.1.isSome)
      && decide ((e :: es).length + ([] : List Keyword).length + (if ([] : List Keyword).isEmpty then 0 else 1) < 30)) = true := by rfl)
    (hline : (apos.endLine == cpos.line) = true := by rfl) (hs : starEach (e :: es) X.env = (false, eval e X.env) :: starEach es X.env := by rfl) (hplain : (backTo cpos (starEach es X.env)).any (·.1) = false := by rfl) :
    PE X (.Call (.Attribute o name apos) (e :: es) [] cpos) (tBM X.K T r to t) := by
  intro pins s σ H Q I h
  refine wpAny_Call_method_late hbase hfew hline rfl (thn (ho pins s σ H _ I h) fun v s1 ⟨x, H1, I1, r1, ty, q1⟩ => ?_)
  obtain ⟨h1, h2⟩ := tyV_is I1 r1 ty
  refine ⟨T, id, pa, slot, hty, h1, h2, ?_⟩
  have hA := ha cpos pins s1 σ H1 _ I1 q1
  rw [hs] at hA ⊢
  refine Calls.callWith_builtin (by show (false || (backTo cpos (starEach es X.env)).any (·.1)) = false; rw [hplain] <;> rfl) (Calls.evalArgs_plain ?_)
  exact thn hA fun us s2 ⟨vs, H2, I2, r2, q2⟩ => hm pins s2 σ H2 x vs v us Q I2 r1 r2 q2
/- xs.append(e), list.index on a module's tuple .. are MtR facts of 06m -/
end
end L2

namespace L2
open PySem PySem.Spec PyProof.Rows

def MtM (X : Cx) (id : String) (r : V → List V → Hp → VK → Prop) : Prop :=
  ∀ (pins : List (Addr × Obj)) (s : Shared) (σ : St) (H : Hp) (x : V) (xs : List V) (v : Value) (us : List Value) (Q : VK), Inv X pins σ H s → RelV x v → Vals xs us → r x xs H Q →
    wpAny (model X.prog X.w) X.A (call (.builtin id) (v :: us)) (EP X pins σ Q) X.xe s

/-! ### lists of values -/
theorem Vals.one : ∀ {x : V} {us : List Value}, Vals [x] us → ∃ u, us = [u] ∧ RelV x u
  | _, _, .cons r .nil => ⟨_, rfl, r⟩
theorem Vals.two : ∀ {x y : V} {us : List Value}, Vals [x, y] us → ∃ u v, us = [u, v] ∧ RelV x u ∧ RelV y v
  | _, _, _, .cons r (.cons q .nil) => ⟨_, _, rfl, r, q⟩
theorem Vals.zero : ∀ {us : List Value}, Vals [] us → us = []
  | _, .nil => rfl
theorem Vals.dropLast {xs : List V} {us : List Value} (h : Vals xs us) : Vals xs.dropLast us.dropLast := by
  induction h with
  | nil => exact .nil
  | cons r t ih =>
    cases t with
    | nil => exact .nil
    | cons q t' => exact .cons r ih
theorem Vals.eraseIdx : ∀ {xs : List V} {us : List Value} (i : Nat), Vals xs us → Vals (xs.eraseIdx i) (us.eraseIdx i)
  | _, _, _, .nil => .nil
  | _, _, 0, .cons _ t => t
  | _, _, i + 1, .cons r t => .cons r (Vals.eraseIdx i t)
theorem Vals.reverse {xs : List V} {us : List Value} (h : Vals xs us) : Vals xs.reverse us.reverse := by
  induction h with
  | nil => exact .nil
  | cons r t ih => rw [List.reverse_cons, List.reverse_cons]; exact Vals.append ih (.cons r .nil)
theorem Vals.rep {xs : List V} {us : List Value} (h : Vals xs us) : ∀ k : Nat, Vals (List.replicate k xs).flatten (List.replicate k us).flatten
  | 0 => .nil
  | k + 1 => by
    rw [List.replicate_succ, List.replicate_succ, List.flatten_cons, List.flatten_cons]
    exact Vals.append h (Vals.rep h k)
theorem erase_last {α : Type} (l : List α) : l.eraseIdx (l.length - 1) = l.dropLast := by
  induction l with
  | nil => rfl
  | cons a r ih =>
    cases r with
    | nil => rfl
    | cons b r =>
      have e : (a :: b :: r).length - 1 = ((b :: r).length - 1) + 1 := by
        have h1 : (a :: b :: r).length = r.length + 2 := rfl
        have h2 : (b :: r).length = r.length + 1 := rfl
        omega
      rw [e, List.eraseIdx_cons_succ, ih]
      all_goals rfl
theorem len_erase {α : Type} : ∀ (l : List α) (i : Nat), (l.eraseIdx i).length ≤ l.length
  | [], _ => Nat.le_refl _
  | _ :: _, 0 => Nat.le_succ _
  | _ :: r, i + 1 => Nat.succ_le_succ (len_erase r i)
theorem foldl_rep (its : List Value) : ∀ (k : Nat) (acc : List Value),
    List.foldl (fun x1 x2 => x1 ++ x2) acc.toArray (List.replicate k its.toArray) = (acc ++ (List.replicate k its).flatten).toArray
  | 0, acc => by simp
  | k + 1, acc => by
    have e : acc.toArray ++ its.toArray = (acc ++ its).toArray := by simp
    have e2 : (acc ++ its) ++ (List.replicate k its).flatten = acc ++ (List.replicate (k + 1) its).flatten := by
      rw [List.replicate_succ, List.flatten_cons, List.append_assoc]
    rw [← e2, ← foldl_rep its k (acc ++ its), ← e, List.replicate_succ, List.foldl_cons]

section
variable {X : Cx} {pins : List (Addr × Obj)} {σ : St} {H : Hp} {s : Shared} {l b : Addr} {xs ys zs : List V}

/-! ### the two steps: a tracked list is rewritten, a new list is laid -/
theorem Inv.lset {its its' : List Value} {n : Nat} {f : Array Value → Array Value} {t' : Nat} (I : Inv X pins σ H s) (hH : H l = some (.lst xs))
    (e : s.heap.get? l = some { cls := .type "list", data := .seq its.toArray n }) (hf : f its.toArray = its'.toArray) (hv : Vals ys its') (hz : ys.length ≤ sizeLine) :
    Inv X pins σ (upd H l (.lst ys)) { s with heap := s.heap.update l (Obj.mapSeq f), toks := t' } := by
  have q := PySem.IsL.update e f
  rw [hf] at q
  refine I.write (x := l) (e := l) (by rw [hH]; exact trivial) (.inl rfl) (fun b' u hb hu => (Heap.get?_update_other s.heap (Obj.mapSeq f) (Ne.symm hb)).trans hu) ⟨_, q⟩ ?_
  exact ⟨hz, its', _, hv, q⟩
theorem Inv.lnew {its : List Value} {t' : Nat} (I : Inv X pins σ H s) (hv : Vals ys its) (hz : ys.length ≤ sizeLine) :
    Inv X pins σ (upd H s.heap.objs.size (.lst ys)) { s with heap := s.heap.push { cls := .type "list", data := .seq its.toArray }, toks := t' } :=
  I.laid (fun _ _ q => Heap.get?_push_of_some _ q) (Nat.le_refl _) ⟨hz, its, 0, hv, Heap.get?_push_size _ rfl⟩
theorem Inv.fresh (I : Inv X pins σ H s) : H s.heap.objs.size = none := I.hok.fresh (Nat.le_refl _)
theorem Inv.lstM (I : Inv X pins σ H s) (hH : H l = some (.lst xs)) : xs.length ≤ sizeLine ∧ ∃ (its : List Value) (n : Nat), Vals xs its ∧ xs.length = its.length ∧ s.heap.get? l = some { cls := .type "list", data := .seq its.toArray n } := by
  obtain ⟨z, its, n, r, e⟩ := I.hok l _ hH
  exact ⟨z, its, n, r, r.length, e⟩

theorem notLongL {n : Nat} (h : n ≤ sizeLine) : Builtin.List.listTooLong n = false := by
  unfold Builtin.List.listTooLong
  exact decide_eq_false (by omega)
end

section
variable {X : Cx}

/-! ### methods -/
def rAppend : V → List V → Hp → VK → Prop := fun x vs H Q => ∃ l xs y, x = .ref l ∧ vs = [y] ∧ H l = some (.lst xs) ∧ xs.length < sizeLine ∧ Q .non (upd H l (.lst (xs ++ [y])))
theorem mt_append : MtM X "list.append" rAppend := by
  intro pins s σ H x vs v us Q I rx rv h
  obtain ⟨l, xs, y, rfl, rfl, hH, hz, q⟩ := h
  cases rx
  obtain ⟨u, rfl, ru⟩ := rv.one
  obtain ⟨z, its, n, r, hl, e⟩ := I.lstM hH
  refine call_meets F.slot_list_append ⟨_, e, rfl⟩ F.entry_list_append (F.args_list_append_2 _ _) (PySem.list_append l its.toArray n u (by rw [List.size_toArray]; omega)) ⟨e, ?_⟩
  refine ⟨.non, _, I.lset (its' := its ++ [u]) hH e (by simp) (r.append (.cons ru .nil)) ?_, rfl, q⟩
  rw [List.length_append, List.length_singleton]
  omega

def rExtend : V → List V → Hp → VK → Prop := fun x vs H Q => ∃ l b xs zs, x = .ref l ∧ vs = [.ref b] ∧ H l = some (.lst xs) ∧ H b = some (.lst zs) ∧ xs.length + zs.length ≤ sizeLine ∧ Q .non (upd H l (.lst (xs ++ zs)))
theorem mt_extend : MtM X "list.extend" rExtend := by
  intro pins s σ H x vs v us Q I rx rv h
  obtain ⟨l, b, xs, zs, rfl, rfl, hH, hB, hz, q⟩ := h
  cases rx
  obtain ⟨u, rfl, ru⟩ := rv.one
  cases ru
  obtain ⟨z, its, n, r, hl, e⟩ := I.lstM hH
  obtain ⟨z2, its2, n2, r2, hl2, e2⟩ := I.lstM hB
  have hsz : its.toArray.size + its2.toArray.size ≤ sizeLine := by rw [List.size_toArray, List.size_toArray]; omega
  have hlong : ¬ (!its.toArray.isEmpty && Builtin.List.listTooLong (its.toArray.size + its2.toArray.size)) = true := by
    rw [notLongL hsz, Bool.and_false]
    exact Bool.false_ne_true
  refine call_meets F.slot_list_extend ⟨_, e, rfl⟩ F.entry_list_extend (F.args_list_extend_2 _ _)
    (AutoSeq1.list_extend_list_list_0 l its.toArray n b its2.toArray n2 hlong (by rw [List.size_toArray]; omega) (by omega)) ⟨e, e2, ?_⟩
  refine ⟨.non, _, I.lset (its' := its ++ its2) hH e (by simp) (r.append r2) ?_, rfl, q⟩
  rw [List.length_append]
  omega

def rPop : V → List V → Hp → VK → Prop := fun x vs H Q => ∃ l xs y, x = .ref l ∧ vs = [] ∧ H l = some (.lst xs) ∧ xs[xs.length - 1]? = some y ∧ Q y (upd H l (.lst xs.dropLast))
theorem mt_pop : MtM X "list.pop" rPop := by
  intro pins s σ H x vs v us Q I rx rv h
  obtain ⟨l, xs, y, rfl, rfl, hH, hy, q⟩ := h
  cases rx
  have hus := rv.zero
  subst hus
  obtain ⟨z, its, n, r, hl, e⟩ := I.lstM hH
  obtain ⟨u, hu, ru⟩ := r.get hy
  have hy' : its.toArray[its.toArray.size - 1]? = some u := by
    show its.toArray[its.length - 1]? = some u
    rw [← Array.getElem?_toList, ← hl]
    exact hu
  refine call_meets F.slot_list_pop ⟨_, e, rfl⟩ F.entry_list_pop (F.args_list_pop_1 _) (MeetsSeq.list_pop_last l its.toArray n u hy' (by rw [List.size_toArray]; omega)) ⟨e, ?_⟩
  refine ⟨y, _, I.lset (its' := its.dropLast) hH e ?_ r.dropLast ?_, ru, q⟩
  · show its.toArray.eraseIdxIfInBounds (its.toArray.size - 1) = its.dropLast.toArray
    rw [List.size_toArray, List.eraseIdxIfInBounds_toArray, erase_last]
  · rw [List.length_dropLast]
    omega

def rPopAt : V → List V → Hp → VK → Prop := fun x vs H Q => ∃ l xs i k y, x = .ref l ∧ vs = [.int i] ∧ H l = some (.lst xs) ∧ -(2 ^ 63) ≤ i ∧ i < 2 ^ 63 ∧ seqIndex? i xs.length = some k ∧ xs[k]? = some y ∧ Q y (upd H l (.lst (xs.eraseIdx k)))
theorem mt_popAt : MtM X "list.pop" rPopAt := by
  intro pins s σ H x vs v us Q I rx rv h
  obtain ⟨l, xs, i, k, y, rfl, rfl, hH, h1, h2, hk, hy, q⟩ := h
  cases rx
  obtain ⟨u, rfl, ru⟩ := rv.one
  obtain ⟨t, rfl⟩ := ru
  obtain ⟨z, its, n, r, hl, e⟩ := I.lstM hH
  obtain ⟨w, hw, rw'⟩ := r.get hy
  refine call_meets F.slot_list_pop ⟨_, e, rfl⟩ F.entry_list_pop (F.args_list_pop_2 _ _)
    (MeetsSeq.list_pop_at l its.toArray n i t k w (fitsIndex_both h1 h2) (by rw [List.size_toArray, ← hl]; exact hk) (by rw [← Array.getElem?_toList]; exact hw) (by rw [List.size_toArray]; omega)) ⟨e, ?_⟩
  refine ⟨y, _, I.lset (its' := its.eraseIdx k) hH e ?_ (r.eraseIdx k) ?_, rw', q⟩
  · show its.toArray.eraseIdxIfInBounds k = (its.eraseIdx k).toArray
    rw [List.eraseIdxIfInBounds_toArray]
  · have := len_erase xs k
    omega

def rReverse : V → List V → Hp → VK → Prop := fun x vs H Q => ∃ l xs, x = .ref l ∧ vs = [] ∧ H l = some (.lst xs) ∧ Q .non (upd H l (.lst xs.reverse))
theorem mt_reverse : MtM X "list.reverse" rReverse := by
  intro pins s σ H x vs v us Q I rx rv h
  obtain ⟨l, xs, rfl, rfl, hH, q⟩ := h
  cases rx
  have hus := rv.zero
  subst hus
  obtain ⟨z, its, n, r, hl, e⟩ := I.lstM hH
  refine call_meets F.slot_list_reverse ⟨_, e, rfl⟩ F.entry_list_reverse (F.args_list_reverse_1 _) (AutoSeq1.list_reverse_list_0 l its.toArray n (by rw [List.size_toArray]; omega)) ⟨e, ?_⟩
  refine ⟨.non, _, I.lset (its' := its.reverse) hH e (by simp) r.reverse ?_, rfl, q⟩
  rw [List.length_reverse]
  omega

def rClear : V → List V → Hp → VK → Prop := fun x vs H Q => ∃ l xs, x = .ref l ∧ vs = [] ∧ H l = some (.lst xs) ∧ Q .non (upd H l (.lst []))
theorem mt_clear : MtM X "list.clear" rClear := by
  intro pins s σ H x vs v us Q I rx rv h
  obtain ⟨l, xs, rfl, rfl, hH, q⟩ := h
  cases rx
  have hus := rv.zero
  subst hus
  obtain ⟨z, its, n, r, hl, e⟩ := I.lstM hH
  refine call_meets F.slot_list_clear ⟨_, e, rfl⟩ F.entry_list_clear (F.args_list_clear_1 _) (AutoSeq1.list_clear_list_0 l its.toArray n (by rw [List.size_toArray]; omega)) ⟨e, ?_⟩
  exact ⟨.non, _, I.lset (its' := []) (ys := []) hH e rfl .nil (Nat.zero_le _), rfl, q⟩

/-! ### list + list, list += list, list * int -/
def rCat : R2 := fun x y H Q => ∃ l b xs zs, x = .ref l ∧ y = .ref b ∧ H l = some (.lst xs) ∧ H b = some (.lst zs) ∧ xs.length + zs.length ≤ sizeLine ∧ ∀ p, H p = none → Q (.ref p) (upd H p (.lst (xs ++ zs)))
theorem op_cat : OpR X (binaryOp .Add) rCat := by
  intro pins s σ H x y v u Q I rx ry h
  obtain ⟨l, b, xs, zs, rfl, rfl, hH, hB, hz, q⟩ := h
  cases rx
  cases ry
  obtain ⟨z, its, n, r, hl, e⟩ := I.lstM hH
  obtain ⟨z2, its2, n2, r2, hl2, e2⟩ := I.lstM hB
  refine PySem.P.add_list e e2 ?_ (by rw [List.size_toArray, List.size_toArray]; omega)
  have ea : its.toArray ++ its2.toArray = (its ++ its2).toArray := by simp
  rw [ea]
  exact ⟨.ref _, _, I.lnew (t' := s.toks) (r.append r2) (by rw [List.length_append]; omega), rfl, q _ I.fresh⟩
/-- a list times an int (a negative one is nothing) -/
def rRep : R2 := fun x y H Q => ∃ l k xs, x = .ref l ∧ y = .int k ∧ H l = some (.lst xs) ∧ -(2 ^ 63) ≤ k ∧ k < 2 ^ 63 ∧ xs.length * k.toNat ≤ sizeLine ∧
  ∀ p, H p = none → Q (.ref p) (upd H p (.lst (List.replicate k.toNat xs).flatten))
theorem len_rep {α : Type} (xs : List α) (k : Nat) : (List.replicate k xs).flatten.length = k * xs.length := by
  induction k with
  | zero => simp
  | succ k ih => rw [List.replicate_succ, List.flatten_cons, List.length_append, ih, Nat.succ_mul, Nat.add_comm]
theorem op_rep : OpR X (binaryOp .Mult) rRep := by
  intro pins s σ H x y v u Q I rx ry h
  obtain ⟨l, k, xs, rfl, rfl, hH, h1, h2, hz, q⟩ := h
  cases rx
  obtain ⟨t, rfl⟩ := ry
  obtain ⟨z, its, n, r, hl, e⟩ := I.lstM hH
  have hlen : its.toArray.size * k.toNat ≤ sizeLine := by rw [List.size_toArray, ← hl]; exact hz
  have hcap : ¬ its.toArray.size * k.toNat > (2 ^ 63 - 1) / 8 := by
    have : (sizeLine : Nat) ≤ (2 ^ 63 - 1) / 8 := by decide
    omega
  have hfit : ¬ (!Builtin.List.listFitsIndex k) = true := by
    rw [fitsIndex_both h1 h2]
    exact Bool.false_ne_true
  have hlong : ¬ Builtin.List.listTooLong (its.toArray.size * k.toNat) = true := by
    rw [notLongL hlen]
    exact Bool.false_ne_true
  have hnew : List.foldl (fun x1 x2 => x1 ++ x2) #[] (List.replicate (if its.toArray.isEmpty = true then 0 else k.toNat) its.toArray) = (List.replicate k.toNat its).flatten.toArray := by
    have f0 : ∀ m : Nat, List.foldl (fun x1 x2 => x1 ++ x2) #[] (List.replicate m its.toArray) = (List.replicate m its).flatten.toArray := fun m => by
      have := foldl_rep its m []
      rw [List.nil_append] at this
      exact this
    rw [f0]
    cases its with
    | nil => simp
    | cons a r' => rw [if_neg (by simp)]
  refine wpAny_binaryOp_repeat_ref (T := "list") (U := "int") (by decide) ⟨_, e, rfl⟩ (fun s' => typeIs_int s' k t) noFill_list_mul F.fills_int_mul F.slot_int_rmul repeat_list F.slot_int_index.lookup
    (call_meets F.slot_int_rmul (typeIs_int s k t) F.entry_int_rmul (F.args_int_rmul_2 _ _) (int___rmul___int_list k t l its.toArray n)
      ⟨e, rfl, ⟨_, e, rfl⟩, call_meets F.slot_list_mul ⟨_, e, rfl⟩ F.entry_list_mul (F.args_list_mul_2 _ _) (AutoListH.list___mul___list_int_3 l its.toArray n k t hfit hcap hlong) ⟨e, ?_⟩⟩)
  rw [hnew]
  exact ⟨.ref _, _, I.lnew (t' := s.toks) (r.rep k.toNat) (by rw [len_rep, Nat.mul_comm]; exact hz), rfl, q _ I.fresh⟩

/-! ### del xs[i] -/
theorem del_list {pins : List (Addr × Obj)} {s : Shared} {σ : St} {H : Hp} {l : Addr} {xs : List V} {i : Int} {t : Tok} {k : Nat} {Q : Unit → Shared → Prop} (I : Inv X pins σ H s) (hH : H l = some (.lst xs))
    (h1 : -(2 ^ 63) ≤ i) (h2 : i < 2 ^ 63) (hk : seqIndex? i xs.length = some k) (h : ∀ s', Inv X pins σ (upd H l (.lst (xs.eraseIdx k))) s' → Q () s') :
    wpAny (model X.prog X.w) X.A (delItem (.ref l) (.int i t)) Q X.xe s := by
  obtain ⟨z, its, n, r, hl, e⟩ := I.lstM hH
  refine PySem.P.delItem_list (k := k) e (fitsIndex_both h1 h2) (by rw [List.size_toArray, ← hl]; exact hk) (h _ ?_) (by rw [List.size_toArray]; omega)
  refine I.lset (its' := its.eraseIdx k) (t' := s.toks) hH e ?_ (r.eraseIdx k) ?_
  · show its.toArray.eraseIdxIfInBounds k = (its.eraseIdx k).toArray
    rw [List.eraseIdxIfInBounds_toArray]
  · have := len_erase xs k
    omega
end

/-! ### xs[a:b] = ys -/
section
variable {prog : Program} {w : World} {A : Around} {E : Value → Shared → Prop} {s : Shared}
theorem splice_eq (its its2 : List Value) (a c : Nat) : its.toArray.extract 0 a ++ its2.toArray ++ its.toArray.extract c its.toArray.size = (its.take a ++ its2 ++ its.drop c).toArray := by
  apply Array.toList_inj.mp
  first
    | (simp
       exact List.take_of_length_le (by simp))
    | simp [List.take_of_length_le]
    | simp
theorem bounds_run {a c n : Nat} (hac : a ≤ c) (hc : c ≤ n) : sliceBounds (some (a : Int)) (some (c : Int)) none n = ((a : Int), (c : Int), 1) := by
  simp only [sliceBounds, Option.getD_none]
  have h1 : ¬ ((a : Int) < 0) := by omega
  have h2 : ¬ ((c : Int) < 0) := by omega
  simp only [h1, h2, if_false, show (1 : Int) > 0 by decide, if_true]
  congr 1
  · omega
  · congr 1; omega
set_option maxRecDepth 100000 in
/-- list.__setitem__ with a slice of step one and another list -/
theorem setItem_slice {l b sl : Addr} {items new : Array Value} {n n2 : Nat} {vl vu : Value} {a c : Nat} {Q : Unit → Shared → Prop}
    (e : s.heap.get? l = some { cls := .type "list", data := .seq items n }) (e2 : s.heap.get? b = some { cls := .type "list", data := .seq new n2 }) (hne : l ≠ b)
    (hs : s.heap.IsSliceOf sl vl vu .none) (pl : IsPart vl (some (a : Int))) (pu : IsPart vu (some (c : Int))) (hac : a ≤ c) (hc : c ≤ items.size)
    (hsz : items.size + new.size ≤ sizeLine) (h : Q () { s with heap := s.heap.update l (Obj.mapSeq fun xs => xs.extract 0 a ++ new ++ xs.extract c xs.size) }) :
    wpAny (model prog w) A (setItem (.ref l) (.ref sl) (.ref b)) Q E s := by
  have hl : s.heap.IsList l items := PySem.IsL.isList e
  have hb : s.heap.IsList b new := PySem.IsL.isList e2
  obtain ⟨os, hos, hcs, hds⟩ := id hs
  have hTs : s.TypeIs (.ref sl) "slice" := ⟨os, hos, hcs⟩
  have hstep : ¬ ((rawPart none == rawInt 0) = true) := Bool.false_ne_true
  have hsame : Builtin.List.listSameRef (.ref l) (.ref b) = false := by
    unfold Builtin.List.listSameRef
    exact beq_eq_false_iff_ne.mpr hne
  have hmax : (max (a : Int) (c : Int)).toNat = c := by omega
  have hz' : ((fun xs : Array Value => xs.extract 0 a ++ new ++ xs.extract c xs.size) items).size ≤ sizeLine + 1 := by
    simp only [Array.size_append, Array.size_extract]
    omega
  unfold setItem
  try with_reducible refine wpAny_holding ?_
  first | refine wpAny_bind (wpAny_pure ?_) | skip
  refine wpAny_bind (wpAny_sequenceKey hl.typeIs (by decide) ?_)
  refine wpAny_bind (wpAny_callSpecial?_slot (name := Str.ofString "__setitem__") hl.typeIs slot_list_setitem
    (wpAny_call_entry slot_list_setitem hl.typeIs entry_list_setitem ?_ (args_list_setitem _ _ _)))
  show wpAny _ _ (Builtin.List.listSubscript? (.ref sl) >>= _) _ _ s
  refine wpAny_bind ?_
  unfold Builtin.List.listSubscript?
  refine wpAny_bind (wpAny_specialOf hTs slice_no_index ?_)
  simp only [Option.isNone_none, if_true]
  refine wpAny_pure ?_
  show wpAny _ _ (typeOf (.ref sl) >>= _) _ _ s
  refine wpAny_bind (wpAny_typeOf hTs ?_)
  first
    | rw [if_neg (by decide)]
    | refine PySem.W.KFB.if_not (by decide) ?_
  rw [listSliceParts_eq]
  refine wpAny_bind (wpAny_bind (wpAny_field hos hds (x := .none) rfl (wpAny_bind (wpAny_listPart .none ?_))))
  rw [if_neg hstep]
  refine wpAny_bind (wpAny_field hos hds (x := vl) rfl (wpAny_bind (wpAny_listPart pl ?_)))
  refine wpAny_bind (wpAny_field hos hds (x := vu) rfl (wpAny_bind (wpAny_listPart pu (wpAny_pure ?_))))
  first
    | simp only [hsame, Bool.false_eq_true, if_false]
    | refine PySem.W.KFB.if_not hsame ?_
    | (dsimp only
       rw [if_neg (by rw [hsame]; exact Bool.false_ne_true)])
  refine wpAny_bind (m := Builtin.List.listAllItems (.ref b) "must assign iterable to extended slice") ?_
  unfold Builtin.List.listAllItems
  refine wpAny_bind (wpAny_typeOf hb.typeIs ?_)
  first
    | refine PySem.W.KFB.if_so (by decide) ?_
    | rw [if_pos (by decide)]
    | simp only [beq_self_eq_true, Bool.true_or, if_true]
  unfold Builtin.List.listItems
  refine wpAny_bind (wpAny_seqItems e2 rfl (wpAny_pure ?_))
  refine wpAny_bind (wpAny_bind (wpAny_seqItems e rfl (wpAny_pure ?_)))
  refine wpAny_bind (wpAny_of_eq ((sliceIndices_raw (some (a : Int)) (some (c : Int)) none items.size (by simp)).trans (congrArg (pure : Int × Int × Int → Sem (Int × Int × Int)) (bounds_run hac hc))) ?_)
  show wpAny _ _ (if ((1 : Int) == 1) = true then _ else _) _ _ s
  rw [if_pos (by decide)]
  refine wpAny_bind (wpAny_rule ?_)
  first
    | simp only [notLongL hsz, Bool.false_eq_true, if_false]
    | refine PySem.W.KFB.if_not (notLongL hsz) ?_
  first | refine wpAny_bind (wpAny_pure ?_) | skip
  show wpAny _ _ (updateSeq l (fun xs => xs.extract 0 ((a : Int)).toNat ++ new ++ xs.extract (max (a : Int) (c : Int)).toNat xs.size) >>= _) _ _ s
  rw [hmax, Int.toNat_natCast]
  refine wpAny_bind (wpAny_updateSeq (hz := Nat.le_trans (Nat.le_add_right _ _) hsz) (_hz' := hz') e rfl ?_)
  refine wpAny_bind (wpAny_letGo ?_)
  first
    | exact wpAny_bind (wpAny_pure (wpAny_pure ⟨.none, rfl, wpAny_pure h⟩))
    | exact wpAny_pure ⟨.none, rfl, wpAny_pure h⟩
end

section
variable {X : Cx}
/-- xs[a:c] = ys of another list, at the value level: sl is the slice object that was just made -/
theorem set_slice {pins : List (Addr × Obj)} {s : Shared} {σ : St} {H : Hp} {l b sl : Addr} {xs ys : List V} {a c : Int} {vl vu : Value} {Q : Unit → Shared → Prop} (I : Inv X pins σ H s)
    (hH : H l = some (.lst xs)) (hB : H b = some (.lst ys)) (hne : l ≠ b) (hs : s.heap.IsSliceOf sl vl vu .none) (ra : RelV (.int a) vl) (rc : RelV (.int c) vu) (h0 : 0 ≤ a) (hac : a ≤ c) (hc : c ≤ xs.length)
    (hz : xs.length + ys.length ≤ sizeLine) (h : ∀ s', Inv X pins σ (upd H l (.lst (xs.take a.toNat ++ ys ++ xs.drop c.toNat))) s' → Q () s') :
    wpAny (model X.prog X.w) X.A (setItem (.ref l) (.ref sl) (.ref b)) Q X.xe s := by
  obtain ⟨ta, rfl⟩ := ra
  obtain ⟨tc, rfl⟩ := rc
  obtain ⟨z, its, n, r, hl, e⟩ := I.lstM hH
  obtain ⟨z2, its2, n2, r2, hl2, e2⟩ := I.lstM hB
  obtain ⟨a', rfl⟩ := Int.eq_ofNat_of_zero_le h0
  obtain ⟨c', rfl⟩ := Int.eq_ofNat_of_zero_le (Int.le_trans h0 hac)
  simp only [Int.toNat_natCast] at h
  refine setItem_slice (a := a') (c := c') e e2 hne hs (.int _ _) (.int _ _) (by omega) (by rw [List.size_toArray]; omega) (by rw [List.size_toArray, List.size_toArray]; omega) (h _ ?_)
  refine I.lset (its' := its.take a' ++ its2 ++ its.drop c') (t' := s.toks) hH e ?_ (Vals.append (Vals.append (r.take _) r2) (r.drop _)) ?_
  · exact splice_eq its its2 a' c'
  · rw [List.length_append, List.length_append, List.length_take, List.length_drop]
    omega
end
end L2

namespace Att
open PySem PySem.W PySem.Calls PyProof.Rows

/-! ### the script -/
theorem ints_of_wellAll {P : Params} {h : Heap} : ∀ (ns : List Int) (vs : List Value), WellAll P h vs (ns.map WData.int) → IntsAre vs ns := by
  intro ns
  induction ns with
  | nil =>
    intro vs w
    rw [List.map_nil] at w
    cases w
    exact .nil
  | cons n ns ih =>
    intro vs w
    rw [List.map_cons] at w
    cases w with
    | cons a b =>
      cases a
      exact .cons _ _ (ih _ b)

theorem script_of {l : OpenLaw} {n : Nat} (hn : l.most = some n) {P : Params} {h : Heap} {args : List WData} {vals : List Value}
    (hpre : l.row.toRowW.claim.pre args = true) (hwl : WellAll P h vals args) :
    ∃ a vs ns, vals = [Value.ref a] ∧ args = [WData.list (ns.map WData.int)] ∧ h.get? a = some { cls := .type "list", data := .seq vs.toArray } ∧ IntsAre vs ns ∧ ns.length ≤ n := by
  have hsh : WShape.hasAll [] args [.list .int] = true := (pre_splitW hpre).1
  have hc : l.pre.holds [] { args := args } = true := (pre_splitW hpre).2
  obtain ⟨d, r, rfl, h1, h2⟩ := hasAllW_cons hsh
  obtain rfl := hasAllW_nil h2
  obtain ⟨xs, rfl, h3⟩ := hasW_list h1
  obtain ⟨ns, rfl⟩ := items_int h3
  have hlen : ns.length ≤ n := by
    unfold OpenLaw.pre at hc
    have h4 : (WTm.not (.lt (.lit (.int (n : Int))) (.len (.arg 0)))).holds [] { args := [.list (ns.map .int)] } = true := by
      have h4 := (holds_andW hc).1
      rw [hn] at h4
      exact h4
    have h5 := condW_of h4 (w_not (w_lt w_lit (w_len_list (w_arg rfl))))
    rw [List.length_map] at h5
    refine Nat.le_of_not_lt fun q => ?_
    have q' : (n : Int) < ((ns.length : Nat) : Int) := by omega
    first
      | (rw [decide_eq_true q'] at h5; exact absurd h5 (by decide))
      | (simp at h5; omega)
  cases hwl with
  | cons w1 w2 =>
    cases w2
    cases w1 with
    | list ho hall => exact ⟨_, _, ns, rfl, rfl, ho, ints_of_wellAll ns _ hall, hlen⟩

theorem post_true (l : OpenLaw) (args : List WData) : l.row.toRowW.claim.post args (.bool true) args = true :=
  postW_of (r := l.row.toRowW) (X := (true == true))
    (show WShape.has [] (.bool true) .bool = true by first | rfl | decide | simp [WShape.has, WShape.arms, WShape.armsAll])
    (show (WTm.eq .res (.lit (.bool true))).value [] { args := args, res := some (.bool true), after := args } = some (.bool (true == true)) from w_eq_bool (w_res rfl) w_lit) rfl

/-! ### the attachment: holds_open's last premise (the goal 'hc' behind k_head) from a wpAny of the law's body -/
theorem attach {l : OpenLaw} {n : Nat} {q : Program} {loose : List Str} {XP : (Str → Option Value) → Heap → Prop} {YP : World → Heap → Prop} {d : DefRec} {x : Str}
    (hn : l.most = some n) (hdf : d.params.defaults = [])
    (hbind : ∀ pm cd doc v : Value, bindArgs (docDef d.name d.params d.body d.scope pm cd doc) ⟨[v], []⟩ = pure [(x, v)])
    (hx : d.scope.names.lookup x = some .local ∨ d.scope.names.lookup x = some .cell)
    (hk : d.scope.kind = .function) (hco : d.scope.isCoroutine = false) (hgen : d.scope.isGenerator = false)
    (body : ∀ (w : World) (s₀ s₁ s : Shared) (mg mb : Str → Option Value) (fa : Addr) (o : Obj) (pm cd doc : Value) (a : Addr) (vs : List Value) (ns : List Int),
      Ground q loose [] XP w s₀ mg mb s₁.heap → YP w s₁.heap →
      s₁.heap.get? fa = some o → o.data = .func (docDef d.name d.params d.body d.scope pm cd doc) → s₁.heap.CodeRec cd d.name → mg d.name = some (.ref fa) →
      s₁.heap.get? a = some { cls := .type "list", data := .seq vs.toArray } → IntsAre vs ns → ns.length ≤ n →
      s.gens = #[] → s.os = s₁.os →
      Fr s₁.heap s₁.heap.objs.size s.heap (bindL (envOfC d.name d.scope s₁.heap.objs.size fa cd).kindOf [(x, .ref a)] fun _ => none) →
      Cl s₁.heap.objs.size (cellsFrom (s₁.heap.objs.size + 1) d.scope.names []) s.heap (bindC (envOfC d.name d.scope s₁.heap.objs.size fa cd).kindOf [(x, .ref a)] fun _ => none) →
      wpAny (model l.prog w) (callerA.deeper (envOfC d.name d.scope s₁.heap.objs.size fa cd)) (execs d.body (envOfC d.name d.scope s₁.heap.objs.size fa cd))
        (fun f s' => f = .ret (.bool true) ∧ OldK s₁.heap s'.heap ∧ s'.os = s₁.os ∧ AllBare s'.gens) (fun _ _ => False) s) :
    WalkO q loose XP YP l.row.toRowW d [] (fun f vs => PySem.call f vs) := by
  intro w s₀ s₁ mg mb G Y fa o pm cd doc dV kV ho hd hcd hD hmg hg args vals as hpre hlay hrd hwl hlo
  obtain rfl : dV = .none := Dflts.none hD hdf
  obtain rfl : kV = .none := Dflts.noKw hD
  obtain ⟨a, vs, ns, rfl, rfl, hobj, hints, hlen⟩ := script_of hn hpre hwl
  refine enter_call ?_
  refine call_cells_ret (o := o) (by rw [depth_caller]; decide) ho (fd_plain hd) G.T.nolimit hcd (hbind pm cd doc (.ref a)) (fun y hy => ?_) (fun h₁ tk F X => ?_) hco hgen hk
  · obtain rfl : y = (x, Value.ref a) := List.mem_singleton.mp hy
    rcases hx with e | e
    · exact .inl e
    · exact .inr ⟨e, cellsFrom_some _ _ _ (.inl e)⟩
  · refine wpAny_mono (body w s₀ s₁ { s₁ with heap := h₁, toks := tk } mg mb fa o pm cd doc a vs ns G Y ho (fd_plain hd) hcd hmg hobj hints hlen hg rfl F X) (fun f s' hq => ?_) (fun _ _ hq => hq)
    obtain ⟨rfl, h2, h3, h4⟩ := hq
    exact ⟨.inl ⟨.bool true, .bool true, [], rfl, fun _ => rfl, .bool true, post_true l _, fun _ => ⟨List.Pairwise.nil, fun _ hm => (nomatch hm)⟩⟩, h2, h3, h4⟩

/-- the same from a codeAny of the CALL (for a layer whose function contracts speak of calls) -/
theorem attach_call {l : OpenLaw} {n : Nat} {q : Program} {loose : List Str} {XP : (Str → Option Value) → Heap → Prop} {YP : World → Heap → Prop} {d : DefRec}
    (hn : l.most = some n) (hdf : d.params.defaults = [])
    (call : ∀ (w : World) (s₀ s₁ : Shared) (mg mb : Str → Option Value) (fa : Addr) (o : Obj) (pm cd doc : Value) (a : Addr) (vs : List Value) (ns : List Int),
      Ground q loose [] XP w s₀ mg mb s₁.heap → YP w s₁.heap →
      s₁.heap.get? fa = some o → o.data = .func (docDef d.name d.params d.body d.scope pm cd doc) → s₁.heap.CodeRec cd d.name → mg d.name = some (.ref fa) →
      s₁.heap.get? a = some { cls := .type "list", data := .seq vs.toArray } → IntsAre vs ns → ns.length ≤ n → s₁.gens = #[] →
      codeAny (model l.prog w) callerA (.call (.ref fa) ⟨[.ref a], []⟩) (fun r s' => r = .ok (.ret (.bool true)) ∧ OldK s₁.heap s'.heap ∧ s'.os = s₁.os ∧ AllBare s'.gens) s₁) :
    WalkO q loose XP YP l.row.toRowW d [] (fun f vs => PySem.call f vs) := by
  intro w s₀ s₁ mg mb G Y fa o pm cd doc dV kV ho hd hcd hD hmg hg args vals as hpre hlay hrd hwl hlo
  obtain rfl : dV = .none := Dflts.none hD hdf
  obtain rfl : kV = .none := Dflts.noKw hD
  obtain ⟨a, vs, ns, rfl, rfl, hobj, hints, hlen⟩ := script_of hn hpre hwl
  refine enter_call (codeAny_mono (call w s₀ s₁ mg mb fa o pm cd doc a vs ns G Y ho (fd_plain hd) hcd hmg hobj hints hlen hg) fun r s' hq => ?_)
  obtain ⟨rfl, h2, h3, h4⟩ := hq
  exact ⟨.inl ⟨.bool true, .bool true, [], rfl, fun _ => rfl, .bool true, post_true l _, fun _ => ⟨List.Pairwise.nil, fun _ hm => (nomatch hm)⟩⟩, h2, h3, h4⟩

/-- the same where the top left finished generators (o_head chose holds_openN): nothing may have changed at all and no generator may be left -/
theorem attachN {l : OpenLaw} {n : Nat} {q : Program} {loose : List Str} {XP : (Str → Option Value) → Heap → Prop} {YP : World → Heap → Prop} {d : DefRec} {x : Str}
    (hn : l.most = some n) (hdf : d.params.defaults = [])
    (hbind : ∀ pm cd doc v : Value, bindArgs (docDef d.name d.params d.body d.scope pm cd doc) ⟨[v], []⟩ = pure [(x, v)])
    (hx : d.scope.names.lookup x = some .local ∨ d.scope.names.lookup x = some .cell)
    (hk : d.scope.kind = .function) (hco : d.scope.isCoroutine = false) (hgen : d.scope.isGenerator = false)
    (body : ∀ (w : World) (s₀ s₁ s : Shared) (mg mb : Str → Option Value) (fa : Addr) (o : Obj) (pm cd doc : Value) (a : Addr) (vs : List Value) (ns : List Int),
      Ground q loose [] XP w s₀ mg mb s₁.heap → YP w s₁.heap →
      s₁.heap.get? fa = some o → o.data = .func (docDef d.name d.params d.body d.scope pm cd doc) → s₁.heap.CodeRec cd d.name → mg d.name = some (.ref fa) →
      s₁.heap.get? a = some { cls := .type "list", data := .seq vs.toArray } → IntsAre vs ns → ns.length ≤ n →
      s.gens = #[] → s.os = s₁.os →
      Fr s₁.heap s₁.heap.objs.size s.heap (bindL (envOfC d.name d.scope s₁.heap.objs.size fa cd).kindOf [(x, .ref a)] fun _ => none) →
      Cl s₁.heap.objs.size (cellsFrom (s₁.heap.objs.size + 1) d.scope.names []) s.heap (bindC (envOfC d.name d.scope s₁.heap.objs.size fa cd).kindOf [(x, .ref a)] fun _ => none) →
      wpAny (model l.prog w) (callerA.deeper (envOfC d.name d.scope s₁.heap.objs.size fa cd)) (execs d.body (envOfC d.name d.scope s₁.heap.objs.size fa cd))
        (fun f s' => f = .ret (.bool true) ∧ (∀ b o, s₁.heap.get? b = some o → s'.heap.get? b = some o) ∧ s'.os = s₁.os ∧ s'.gens = #[]) (fun _ _ => False) s) :
    WalkN q loose XP YP l.row.toRowW d [] (fun f vs => PySem.call f vs) := by
  intro w s₀ s₁ mg mb G Y fa o pm cd doc dV kV ho hd hcd hD hmg hg args vals as hpre hlay hrd hwl hlo
  obtain rfl : dV = .none := Dflts.none hD hdf
  obtain rfl : kV = .none := Dflts.noKw hD
  obtain ⟨a, vs, ns, rfl, rfl, hobj, hints, hlen⟩ := script_of hn hpre hwl
  refine enter_callW ?_
  refine call_cells_ret (o := o) (by rw [depth_caller]; decide) ho (fd_plain hd) G.T.nolimit hcd (hbind pm cd doc (.ref a)) (fun y hy => ?_) (fun h₁ tk F X => ?_) hco hgen hk
  · obtain rfl : y = (x, Value.ref a) := List.mem_singleton.mp hy
    rcases hx with e | e
    · exact .inl e
    · exact .inr ⟨e, cellsFrom_some _ _ _ (.inl e)⟩
  · refine wpAny_mono (body w s₀ s₁ { s₁ with heap := h₁, toks := tk } mg mb fa o pm cd doc a vs ns G Y ho (fd_plain hd) hcd hmg hobj hints hlen hg rfl F X) (fun f s' hq => ?_) (fun _ _ hq => hq)
    obtain ⟨rfl, h2, h3, h4⟩ := hq
    exact ⟨.inl ⟨.bool true, .bool true, [], rfl, fun _ => rfl, .bool true, post_true l _, fun _ => ⟨List.Pairwise.nil, fun _ hm => (nomatch hm)⟩⟩, h2, h3, h4⟩

/-! ### rules over ANY heap (no ledger) from facts about the written part K: the library's own take a ledger (News) for what they write -/
section
variable {prog : Program} {w : World} {A : Around} {E : Value → Shared → Prop} {s : Shared} {K : Frag}

/-- a def of the module, or a method (qual 'C.m'), entered: the frame is the next address; cells behind it -/
theorem call_fn {R : Result → Shared → Prop} {name qual : Str} {params : Arguments} {body : List Stmt} {scope : Scope} {dV kV doc pm cdv ct oc : Value} {an od : Option Addr} {osl : Array (Option Value)} {f : Addr} {args : Args} {binds : List (Str × Value)}
    (X : K.In s.heap) (hlim : s.heap.NoLimit) (ho : K.lookup f = some ⟨oc, od, .func (fnOf name qual params body scope dV kV doc pm an cdv ct), osl⟩) (hcd : codeIn K cdv qual = true) (hroom : A.depth < recursionLimit)
    (hbind : BindsTo s (fnOf name qual params body scope dV kV doc pm an cdv ct) args binds)
    (hkind : (binds.all fun y => scope.names.lookup y.1 == some .local || scope.names.lookup y.1 == some .cell) = true)
    (h : ∀ s₁, InCallC s s.heap.objs.size (bindL (envOfC qual scope s.heap.objs.size f cdv).kindOf binds fun _ => none) (cellsFrom (s.heap.objs.size + 1) scope.names [])
        (bindC (envOfC qual scope s.heap.objs.size f cdv).kindOf binds fun _ => none) s₁ →
      wpAny (model prog w) (A.deeper (envOfC qual scope s.heap.objs.size f cdv)) (execs body (envOfC qual scope s.heap.objs.size f cdv))
        (fun fl s' => R (.ok (.ret (match fl with | .ret v => v | _ => .none))) s')
        (fun e s' => wpAny (model prog w) (A.deeper (envOfC qual scope s.heap.objs.size f cdv)) (leaving (envOfC qual scope s.heap.objs.size f cdv) e) (fun _ s'' => R (.error e) s'') (fun e' s'' => R (.error e') s'') s') s₁)
    (hco : scope.isCoroutine = false) (hgen : scope.isGenerator = false) (hk : scope.kind = .function) : codeAny (model prog w) A (.call (.ref f) args) R s := by
  refine codeAny_call_function hroom (X _ _ ho) rfl hco hgen rfl (codeRec_of X hcd) (hbind _ _ _ _ ?_)
  refine wpAny_newFunctionEnv_cells hk (kindsX hkind _) fun env he s₁ x => ?_
  subst he
  exact ⟨hlim.keeps x.toInCall.keep, codeAny_func (h s₁ x)⟩

/-- C(..): dict at size, instance at size + 1, then __init__ -/
theorem make_obj {R : Result → Shared → Prop} {C fI : Addr} {rest : List Value} {kw : List (Str × Value)}
    (X : K.In s.heap) (hm : makesIn K C = true) (hi : findIn K (.ref C) "__init__" = some (some (.ref fI))) (hf : isFn K (.ref fI) = true)
    (h : codeAny (model prog w) (A.under (.builtin "type.__call__" ⟨.ref C :: rest, kw⟩)) (.call (.ref fI) ⟨.ref (s.heap.objs.size + 1) :: rest, kw⟩) (InitBack (s.heap.objs.size + 1) R)
      { s with heap := (s.heap.push emptyDict).push (instObj C s.heap.objs.size) }) : codeAny (model prog w) A (.call (.ref C) ⟨rest, kw⟩) R s := by
  obtain ⟨hh, g, d, t, os⟩ := s
  exact make_core (makes_of X hm) (looks_findIn X hi) (fun self => bind_fn X self (beq_iff_eq.mp hf)) (.inl rfl) h

/-- x.name where the instance's dict holds the name and the class does not -/
theorem get_field {x C : Addr} {ox : Obj} {es : List DictEntry} {n : Nat} {name : Str} {expr : Bool} {v : Value} {Q : Value → Shared → Prop}
    (X : K.In s.heap) (I : PySem.W.InstAt s.heap x ox C (some (dictOf es n))) (hg : plainGet K C name = true) (hh : hasDictIn K C = true) (ha : findIn K (.ref C) name = some none)
    (hl : getL name es = some (some v)) (hv : handedIn v = true) (h : Q v { s with toks := s.toks + 1 }) : wpAny (model prog w) A (getAttr (.ref x) name expr) Q E s :=
  get_value X I (plainGet_of hg).1 (findObj_own hh ha rfl hl) hv h

/-- x.m(..): the method found in the class -/
theorem get_method {x C f : Addr} {ox : Obj} {es : List DictEntry} {n : Nat} {name : Str} {pl : Sem Bool} {Q : Value × List Value → Shared → Prop}
    (X : K.In s.heap) (I : PySem.W.InstAt s.heap x ox C (some (dictOf es n))) (hg : plainGet K C name = true) (hf : findIn K (.ref C) name = some (some (.ref f))) (ht : isFn K (.ref f) = true)
    (hl : getL name es = some none) (h : Q (.ref f, [.ref x]) s) : wpAny (model prog w) A (getMethod (.ref x) name pl) Q E s :=
  method_fn X I (plainGet_of hg).1 (plainGet_of hg).2 hf (beq_iff_eq.mp ht) (by show (lookIn name (dictOf es n)).map _ = _; rw [lookIn_dict, hl]; rfl) h

/-! the whole heap as the ledger: makes every rule that writes through a ledger a rule over any heap -/
def noObjs (h : Heap) : Heap := { h with objs := #[] }
theorem noObjs_get (h : Heap) (b : Addr) : (noObjs h).get? b = none := by
  cases e : (noObjs h).get? b with
  | none => rfl
  | some o => exact absurd (Heap.lt_size e) (Nat.not_lt_zero _)
def ledger (h : Heap) (L d : Addr) : List (Addr × Obj) := (List.range h.objs.size).filterMap fun a => if a = L ∨ a = d then none else (h.get? a).map fun o => (a, o)
theorem mem_ledger {h : Heap} {L d a : Addr} {o : Obj} : (a, o) ∈ ledger h L d ↔ a ≠ L ∧ a ≠ d ∧ h.get? a = some o := by
  unfold ledger
  rw [List.mem_filterMap]
  constructor
  · rintro ⟨b, _, e⟩
    split at e
    · cases e
    · rename_i hb
      obtain ⟨o', ho, e'⟩ := Option.map_eq_some_iff.mp e
      cases e'
      exact ⟨fun q => hb (.inl q), fun q => hb (.inr q), ho⟩
  · rintro ⟨n1, n2, ho⟩
    refine ⟨a, List.mem_range.mpr (Heap.lt_size ho), ?_⟩
    rw [if_neg (show ¬ (a = L ∨ a = d) from fun q => q.elim n1 n2), ho] <;> rfl
theorem news_ledger {h : Heap} {L d : Addr} {od : Obj} (hne : d ≠ L) (ho : h.get? d = some od) : News (noObjs h) L h ([] ++ (d, od) :: ledger h L d) := by
  rintro ⟨a, o⟩ hp
  rcases List.mem_cons.mp hp with e | hp
  · cases e
    exact ⟨ho, hne, noObjs_get _ _⟩
  · obtain ⟨n1, n2, e⟩ := mem_ledger.mp hp
    exact ⟨e, n1, noObjs_get _ _⟩
theorem fr_all {h : Heap} {L : Addr} {m : Str → Option Value} (n : h.Ns L m) : Fr (noObjs h) L h m :=
  ⟨n, fun b o e => (by rw [noObjs_get] at e; cases e), Nat.zero_le _⟩
/-- Upd of the head entry (for append_K, setItem_K ..) -/
theorem upd_ledger {h : Heap} {L d : Addr} {o o' : Obj} : Upd d o o' ((d, o) :: ledger h L d) ((d, o') :: ledger h L d) :=
  .head fun ⟨_, _⟩ hp => (mem_ledger.mp hp).2.1

/-- x.name = v over any heap: L is any namespace of the heap (the frame's, say): its map stays, its object is not told; all else but the dict stays -/
theorem set_field {x C dx L : Addr} {ox : Obj} {m : Str → Option Value} {es es' : List DictEntry} {n n' : Nat} {name : Str} {v : Value} {Q : Unit → Shared → Prop}
    (X : K.In s.heap) (I : PySem.W.InstAt s.heap x ox C (some (dictOf es n))) (hd : ox.dict = some dx) (hL : s.heap.Ns L m) (hne : dx ≠ L)
    (hs : findIn K (.ref C) "__setattr__" = some (some (.builtin "object.__setattr__"))) (hp : plainOver K C = true) (ht : takerIn K C name = some none) (hh : hasDictIn K C = true) (hl : (getL name es).isSome = true)
    (e : (putL name (PyData.keyHash w.params name) (.str name (s.toks + 1)) v es, putN name es n) = (es', n')) (hz : es'.length ≤ 1000)
    (h : ∀ h' : Heap, h'.Ns L m → h'.get? dx = some (dictOf es' n') → (∀ b o, b ≠ dx → b ≠ L → s.heap.get? b = some o → h'.get? b = some o) → Q () { s with heap := h', toks := s.toks + 2 }) :
    wpAny (model prog w) A (setAttr (.ref x) name v) Q E s := by
  obtain ⟨e1, e2⟩ := Prod.mk.inj e
  have hdx : s.heap.get? dx = some (dictOf es n) := by
    have := I.dict
    rw [hd] at this
    exact this
  refine set_plain X I hs (osa_dict (s := { s with toks := s.toks + 1 }) (h₀ := noObjs s.heap) (L := L) (m := m) (od := dictOf es n) (od' := dictOf es' n') (es := es') (n := n') (pre := []) (post := ledger s.heap L dx)
    (fr_all hL) (news_ledger hne hdx) X I hd hp ht hh hl (fun _ q => nomatch q) (fun ⟨_, _⟩ q => (mem_ledger.mp q).2.1) (by rw [putName_dict, e1, e2]) rfl hz fun h' F' N' => ?_)
  exact h h' F'.ns (N'.get (List.Mem.head _)) fun b o n1 n2 ho => N'.get (List.Mem.tail _ (mem_ledger.mpr ⟨n2, n1, ho⟩))
end
end Att

namespace L2
open PySem PySem.Spec PyProof.Rows

theorem vals_ints : ∀ {vs : List Value} {ns : List Int}, IntsAre vs ns → Vals (ns.map V.int) vs
  | _, _, .nil => .nil
  | _, _, .cons n t h => .cons ⟨t, rfl⟩ (vals_ints h)

/-- nothing is tracked but the script, known to the object (or it is an object of the module) -/
def Only (H : Hp) : Prop := ∀ b, H b = none ∨ ∃ o xs, H b = some (.frz o (.lst xs))

/-- THE HEAD: the law's promise, at the heap behind the top. F, the promise of the law's def, may use that base is part of the heap (so K.In base, base.Ns mainGlobals mg stand in Mod) -/
theorem law_call {P : Program} {w : World} {K : PySem.W.Frag} {mg mb : Str → Option Value} {CX : CXT} {k : Nat} {fa a : Addr} {fd : FuncData} {x : Str} {sp : Sp} {s₁ : Shared} {vs : List Value} {ns : List Int}
    (KX : K.In s₁.heap) (hns : s₁.heap.Ns mainGlobals mg) (hb : s₁.heap.Ns builtinsNs mb) (hbb : ∀ x : Str, x ≠ "__name__" → mb x = bootBuiltins x) (hlim : s₁.heap.NoLimit) (hg : s₁.gens = #[])
    (ha : s₁.heap.get? a = some { cls := .type "list", data := .seq vs.toArray }) (hi : IntsAre vs ns) (hl : ns.length ≤ sizeLine) (hr : Room k callerA)
    (F : ∀ base : Heap, K.In base → base.Ns mainGlobals mg → FnOk P w K mg base CX k fa fd [x] sp) (hbind : ∀ (s : Shared) (u : Value), BindsTo s fd ⟨[u], []⟩ [(x, u)])
    (hsp : ∀ H : Hp, Only H → SqL K H a (ns.map V.int) → sp [.ref a] H (fun v _ => v = .bl true) fun _ _ _ => False)
    (hCX : ∀ H e s', CX [] H s₁ (fun _ _ _ => False) e s' → False) :
    codeAny (model P w) callerA (.call (.ref fa) ⟨[.ref a], []⟩) (fun r s' => r = .ok (.ret (.bool true)) ∧ OldK s₁.heap s'.heap ∧ s'.os = s₁.os ∧ AllBare s'.gens) s₁ := by
  have rv := vals_ints hi
  have lenV := hi.length
  -- from an abstract heap in which nothing but the script may be tracked
  have core : ∀ H : Hp, Only H → SqL K H a (ns.map V.int) → HOk P w H s₁.heap → (∀ b, H b ≠ none → b = a) → (H a ≠ none → K.lookup a = none) →
      codeAny (model P w) callerA (.call (.ref fa) ⟨[.ref a], []⟩) (fun r s' => r = .ok (.ret (.bool true)) ∧ OldK s₁.heap s'.heap ∧ s'.os = s₁.os ∧ AllBare s'.gens) s₁ := by
    intro H hO hS hok hA hK
    have base_of : ∀ {b : Addr} {o : Obj}, s₁.heap.get? b = some o → H b = none → (hidT s₁.heap H).get? b = some o := fun e n => hidT_get e n
    have noA : ∀ {b : Addr} {o : Obj} {es : Array DictEntry} {ep : Nat}, s₁.heap.get? b = some o → o.data = .dict es ep → H b = none := fun {b o es ep} e d => by
      cases q : H b with
      | none => rfl
      | some u =>
        have e' : b = a := hA b (by rw [q]; simp)
        subst e'
        rw [ha] at e; cases e
        have d' : Data.seq vs.toArray _ = Data.dict es ep := d
        cases d'
    have nsK : ∀ {b : Addr} {m : Str → Option Value}, s₁.heap.Ns b m → (hidT s₁.heap H).Ns b m := fun {b m} ⟨o, es, ep, e, d, r⟩ => ⟨o, es, ep, base_of e (noA e d), d, r⟩
    have hKb : K.In (hidT s₁.heap H) := fun b o e => base_of (KX b o e) (by
      cases q : H b with
      | none => rfl
      | some u =>
        have e' : b = a := hA b (by rw [q]; simp)
        subst e'
        rw [hK (by rw [q]; simp)] at e; cases e)
    have hM : Mod K mg (hidT s₁.heap H) := ⟨hKb, nsK hns, ⟨mb, nsK hb, hbb⟩, let ⟨mc, h1, h2⟩ := hlim; ⟨mc, nsK h1, h2⟩⟩
    have e0 : Env0 P w K mg (hidT s₁.heap H) callerA [] s₁ H := ⟨rfl, hM, fun b o e => of_hidT e, Nat.le_of_eq (hidT_size _ _), trivial, fun b hb => absurd (show b ∈ ([] : List Addr) from hb) (by simp), hok, .of_eq hg⟩
    refine codeAny_mono ((F _ hKb (nsK hns)).run callerA [] s₁ H ⟨[.ref a], []⟩ [.ref a] [.ref a] _ _ hr e0 (hbind s₁ (.ref a)) (.cons rfl .nil) (hsp H hO hS)) fun r s' h => ?_
    cases r with
    | error e => exact (hCX H e s' h).elim
    | ok fl =>
      cases fl with
      | next => exact False.elim h
      | brk => exact False.elim h
      | cont => exact False.elim h
      | ret u =>
        obtain ⟨v, H', os, bare, un, hok', r', q⟩ := h
        have q' : v = .bl true := q
        subst q'
        obtain rfl : u = Value.bool true := r'
        refine ⟨rfl, OldK.of_keep fun b o e => ?_, os, bare⟩
        cases q : H b with
        | none => exact un.keep b o e q (by intro z; exact absurd (show b ∈ ([] : List Addr) from z) (by simp)) (by simp)
        | some u =>
          rcases hO b with z | ⟨ob, xs, z⟩
          · rw [q] at z; cases z
          · have z2 := un.frzs b ob _ z
            obtain ⟨e1, _⟩ := hok b _ z
            obtain ⟨e2, _⟩ := hok' b _ z2
            rw [e] at e1; cases e1
            exact e2
  cases hk : K.lookup a with
  | some o =>
    -- the script is one of the module's own objects
    have e := KX a o hk
    rw [ha] at e
    cases e
    refine core (fun _ => none) (fun _ => .inl rfl) (.inr ⟨_, vs.toArray, _, hk, rfl, rfl, rfl, by rw [List.size_toArray, lenV]; exact hl, by simpa using rv⟩) (fun b u z => by have z' : (none : Option HO) = some u := z; cases z') (fun b z => absurd rfl z) fun z => absurd rfl z
  | none =>
    refine core (fun b => if b = a then some (.frz { cls := .type "list", data := .seq vs.toArray } (.lst (ns.map V.int))) else none) (fun b => ?_) (.inl (.inr ⟨{ cls := .type "list", data := .seq vs.toArray }, if_pos rfl⟩)) (fun b u z => ?_) (fun b z => ?_) fun _ => hk
    · by_cases hb : b = a
      · exact .inr ⟨_, _, if_pos hb⟩
      · exact .inl (if_neg hb)
    · by_cases hb : b = a
      · have z' := (if_pos hb).symm.trans z
        cases z'
        subst hb
        exact ⟨ha, by rw [List.length_map]; exact hl, vs, _, rv, ha⟩
      · have z' := (if_neg hb).symm.trans z
        cases z'
    · by_cases hb : b = a
      · exact hb
      · exact absurd (if_neg hb) z
end L2

namespace L2
open PySem PySem.Spec PyProof.Rows

abbrev KOf {K : PySem.W.Frag} {h : Heap} (_ : K.In h) : PySem.W.Frag := K

/-- the goal that k_head leaves (case hc), from the law's promise. F gives the function object fd (K's own) once, then the promise over every base -/
theorem walk_of {l : PySem.W.OpenLaw} {n k : Nat} {q : Program} {loose : List Str} {XP : (Str → Option Value) → Heap → Prop} {YP : World → Heap → Prop} {d : DefRec} {K : Params → PySem.W.Frag} {CX : World → CXT} {sp : World → Sp} {x : Str}
    (hn : l.most = some n) (hn2 : n ≤ sizeLine) (hdf : d.params.defaults = []) (hr : Room k callerA)
    (hY : ∀ (w : World) (h : Heap), YP w h → (K w.params).In h)
    (F : ∀ (w : World) (mg : Str → Option Value) (fa : Addr) (h : Heap), (K w.params).In h → h.Ns mainGlobals mg → mg d.name = some (.ref fa) →
      ∃ fd : FuncData, (∀ (s : Shared) (u : Value), BindsTo s fd ⟨[u], []⟩ [(x, u)]) ∧
        ∀ base : Heap, (K w.params).In base → base.Ns mainGlobals mg → FnOk l.prog w (K w.params) mg base (CX w) k fa fd [x] (sp w))
    (hsp : ∀ (w : World) (H : Hp) (a : Addr) (ns : List Int), ns.length ≤ n → Only H → SqL (K w.params) H a (ns.map V.int) → sp w [.ref a] H (fun v _ => v = .bl true) fun _ _ _ => False)
    (hCX : ∀ (w : World) (H : Hp) (s : Shared) (e : Value) (s' : Shared), CX w [] H s (fun _ _ _ => False) e s' → False) :
    PySem.W.WalkO q loose XP YP l.row.toRowW d [] (fun f vs => PySem.call f vs) := by
  refine Att.attach_call hn hdf fun w s₀ s₁ mg mb fa o pm cd doc a vs ns G Y ho hd hcd hmg hobj hints hlen hg => ?_
  have KX := hY w _ Y
  obtain ⟨fd, hb, hF⟩ := F w mg fa _ KX G.T.g hmg
  exact law_call KX G.T.g G.T.b G.T.builtins G.T.nolimit hg hobj hints (Nat.le_trans hlen hn2) hr hF hb (fun H hO hS => hsp w H a ns hlen hO hS) fun H e s' => hCX w H s₁ e s'
/-- the same where the promise hangs on the written part alone: (sp := My.sp_law), no hole under a binder -/
theorem walk_ofK {l : PySem.W.OpenLaw} {n k : Nat} {q : Program} {loose : List Str} {XP : (Str → Option Value) → Heap → Prop} {YP : World → Heap → Prop} {d : DefRec} {K : Params → PySem.W.Frag} {CX : CXT} {sp : PySem.W.Frag → Sp} {x : Str}
    (hn : l.most = some n) (hn2 : n ≤ sizeLine) (hdf : d.params.defaults = []) (hr : Room k callerA)
    (hY : ∀ (w : World) (h : Heap), YP w h → (K w.params).In h)
    (F : ∀ (w : World) (mg : Str → Option Value) (fa : Addr) (h : Heap), (K w.params).In h → h.Ns mainGlobals mg → mg d.name = some (.ref fa) →
      ∃ fd : FuncData, (∀ (s : Shared) (u : Value), BindsTo s fd ⟨[u], []⟩ [(x, u)]) ∧
        ∀ base : Heap, (K w.params).In base → base.Ns mainGlobals mg → FnOk l.prog w (K w.params) mg base CX k fa fd [x] (sp (K w.params)))
    (hsp : ∀ (K : PySem.W.Frag) (H : Hp) (a : Addr) (ns : List Int), ns.length ≤ n → Only H → SqL K H a (ns.map V.int) → sp K [.ref a] H (fun v _ => v = .bl true) fun _ _ _ => False)
    (hCX : ∀ (H : Hp) (s : Shared) (e : Value) (s' : Shared), CX [] H s (fun _ _ _ => False) e s' → False) :
    PySem.W.WalkO q loose XP YP l.row.toRowW d [] (fun f vs => PySem.call f vs) :=
  walk_of (K := K) (CX := fun _ => CX) (sp := fun w => sp (K w.params)) hn hn2 hdf hr hY F (fun w H a ns h1 h2 h3 => hsp (K w.params) H a ns h1 h2 h3) fun _ H s e s' => hCX H s e s'
end L2

/-! SHORT WORDS over the layer: a def of the text, its body, what a loop and a test want. -/
namespace L2
open PySem PySem.Spec PyProof.Rows

/-! ### the text by places -/
/-- the j-th statement of a class's body -/
def inClass (s : Stmt) (j : Nat) : Stmt := match s with
  | .ClassDef _ _ _ body _ _ _ _ _ _ _ => body.getD j (.Pass ⟨0, 0, 0, 0⟩)
  | _ => .Pass ⟨0, 0, 0, 0⟩
def defArgs (s : Stmt) : Arguments := match s with
  | .FunctionDef _ a _ _ _ _ _ _ _ _ => a
  | _ => { posonlyargs := [], args := [], vararg := none, kwonlyargs := [], kw_defaults := [], kwarg := none, defaults := [] }
def defBody (s : Stmt) : List Stmt := match s with
  | .FunctionDef _ _ b _ _ _ _ _ _ _ => b
  | _ => []
def defScope (s : Stmt) : Scope := match s with
  | .FunctionDef _ _ _ _ _ _ sc _ _ _ => sc
  | _ => { kind := .function, names := [], isGenerator := false, isCoroutine := false }

/-! ### no exception leaves a def -/
abbrev CX0 : CXT := fun _ _ _ _ _ _ => False
abbrev E0 : XK := fun _ _ _ => False
theorem pass0 {X : Cx} : Passes CX0 X E0 := fun _ _ _ _ _ _ _ h => h.elim

/-! ### a def (or method) of the text as it stands behind the top -/
structure Fun (K : PySem.W.Frag) (x qual : Str) (st : Stmt) (f : Addr) (fd : FuncData) : Prop where
  ex : ∃ (oc : Value) (od : Option Addr) (kV doc pm : Value) (an : Option Addr) (cdv ct : Value) (osl : Array (Option Value)),
    fd = PySem.W.fnOf x qual (defArgs st) (defBody st) (defScope st) .none kV doc pm an cdv ct ∧ K.lookup f = some ⟨oc, od, .func fd, osl⟩ ∧ PySem.W.codeIn K cdv qual = true
  kp : PySem.W.keepIn K (.ref f) = true
section
variable {P : Program} {w : World} {K : PySem.W.Frag} {mg : Str → Option Value} {base : Heap}
/-- THE RULE for a def: its body as a term of rules, and the reading of that term -/
theorem Fun.ok {x qual : Str} {st : Stmt} {f : Addr} {fd : FuncData} {N ps : List Str} {k : Nat} {sp : Sp} (F : Fun K x qual st f fd) (S : FnScope N ps (defScope st)) (len : ∀ vs H Q E, sp vs H Q E → vs.length = ps.length)
    (hbody : ∀ (cdv : Value) (A : Around) (outer : List Env) (s : Shared) (H : Hp) (vs : List V) (Q : VK) (E : XK), Room k (A.deeper (envOfC qual (defScope st) s.heap.objs.size f cdv)) → sp vs H Q E →
      ∃ t, PSs (cxOf CX0 P w K mg base N qual (defScope st) f cdv A outer s H E).nox (defBody st) t ∧ t { nx := fun _ H' => Q .non H', rt := Q } (start N vs) H) : FnOk P w K mg base CX0 (k + 1) f fd ps sp := by
  obtain ⟨oc, od, kV, doc, pm, an, cdv, ct, osl, rfl, lk, hcd⟩ := F.ex
  refine fn_of lk hcd S len fun A outer s H vs Q E hr hsp => ?_
  obtain ⟨t, h, q⟩ := hbody cdv A outer s H vs Q E hr hsp
  exact ⟨t, h.nox, q⟩
/-- how its arguments bind (no defaults): h is «fun _ _ _ _ _ _ us hl => match us, hl with | [_, _], _ => rfl», one _ a parameter -/
theorem Fun.binds {x qual : Str} {st : Stmt} {f : Addr} {fd : FuncData} {ps : List Str} (F : Fun K x qual st f fd)
    (h : ∀ (kV doc pm : Value) (an : Option Addr) (cdv ct : Value) (us : List Value), us.length = ps.length → bindArgs (PySem.W.fnOf x qual (defArgs st) (defBody st) (defScope st) .none kV doc pm an cdv ct) ⟨us, []⟩ = pure (ps.zip us)) : Binds K fd ps [] := by
  obtain ⟨oc, od, kV, doc, pm, an, cdv, ct, osl, rfl, lk, hcd⟩ := F.ex
  exact .all (h kV doc pm an cdv ct)
theorem fun_mk {x qual : Str} {st : Stmt} {f : Addr} {oc : Value} {od an : Option Addr} {osl : Array (Option Value)} {kV doc pm cdv ct : Value} (l : K.lookup f = some ⟨oc, od, .func (PySem.W.fnOf x qual (defArgs st) (defBody st) (defScope st) .none kV doc pm an cdv ct), osl⟩)
    (c : PySem.W.codeIn K cdv qual = true) (k : PySem.W.keepIn K (.ref f) = true) : Fun K x qual st f (PySem.W.fnOf x qual (defArgs st) (defBody st) (defScope st) .none kV doc pm an cdv ct) := ⟨⟨oc, od, kV, doc, pm, an, cdv, ct, osl, rfl, l, c⟩, k⟩
end
theorem hu_of {A : Around} {k : Nat} (hr : Room k A) : A.units + 1 < cLine := Nat.lt_of_le_of_lt (Nat.add_le_add_left (by decide : 1 ≤ 64) _) hr.units
theorem small1000 {n : Nat} (h : n ≤ 1000) : n < sizeLine := Nat.lt_of_le_of_lt h (by decide)

/-! ### expressions in short: the name that stands in the i-th slot -/
section
variable {X : Cx}
theorem pv (i : Nat) {x : Str} {pos : Pos} (hN : X.N[i]? = some x := by rfl) (hv : Vis X.env.scope x := by first | exact Or.inl rfl | exact Or.inr (Or.inl rfl) | exact Or.inr (Or.inr rfl)) (hd : (x == ("__debug__" : Str)) = false := by decide)
    (hcd : (x == ("__classdict__" : Str)) = false := by decide) : PE X (.Name x pos) (tVar i) := pe_var hN hv hd hcd
end

/-! ### tests -/
theorem iteF {A B : Prop} (h : B) : if false = true then A else B := by
  rw [if_neg Bool.false_ne_true]
  exact h
theorem iteT {A B : Prop} (h : A) : if true = true then A else B := by
  rw [if_pos rfl]
  exact h
theorem ite2 {c A B : Prop} [Decidable c] (h1 : c → A) (h2 : ¬ c → B) : if c then A else B := by
  by_cases h : c
  · rw [if_pos h]
    exact h1 h
  · rw [if_neg h]
    exact h2 h
theorem iteNS {c A B : Prop} [Decidable c] (hc : c) (h : B) : if (!decide c) = true then A else B := by
  rw [decide_eq_true hc]
  exact iteF h

/-! ### heaps -/
/-- all that was tracked is as it was -/
def Same (H H' : Hp) : Prop := ∀ b o, H b = some o → H' b = some o
theorem Same.refl (H : Hp) : Same H H := fun _ _ h => h
theorem Same.trans {H H1 H2 : Hp} (a : Same H H1) (b : Same H1 H2) : Same H H2 := fun c o h => b c o (a c o h)
theorem Same.free {H H' : Hp} (e : Same H H') {l : Addr} (h : H' l = Option.none) : H l = Option.none := by
  cases q : H l with
  | none => rfl
  | some o =>
    rw [e l o q] at h
    cases h
theorem Same.seq {K : PySem.W.Frag} {H H' : Hp} {a : Addr} {xs : List V} (e : Same H H') (h : SqL K H a xs) : SqL K H' a xs := by
  rcases h with (h | ⟨o, h⟩) | h
  · exact .inl (.inl (e _ _ h))
  · exact .inl (.inr ⟨o, e _ _ h⟩)
  · exact .inr h

end L2

set_option maxHeartbeats 4000000
namespace L2
open PySem PySem.Spec PyProof.Rows
section
variable {X : Cx} {a b c d : Expr} {ta tb tc td : TE} {pos : Pos}
/-- a op1 b op2 c op3 d -/
def tChain3 (r r' r'' : R2) (ta tb tc td : TE) : TE := fun σ H Q => ta σ H fun x H1 => tb σ H1 fun y H2 => r x y H2 fun z H3 => ∃ k, z = .bl k ∧
  (if k = true then tc σ H3 fun w' H4 => r' y w' H4 fun z' H5 => ∃ k', z' = .bl k' ∧ (if k' = true then td σ H5 fun q H6 => r'' w' q H6 Q else Q (.bl false) H5) else Q (.bl false) H3)
theorem pt_chain3 {op op' op'' : CmpOp} {r r' r'' : R2} (ho : OpR X (compareOp op) r) (ho' : OpR X (compareOp op') r') (ho'' : OpR X (compareOp op'') r'') (ha : PE X a ta) (hb : PE X b tb) (hc : PE X c tc) (hd : PE X d td)
    (hm : lastMarks [op, op', op''] [b, c, d] = false := by with_unfolding_all rfl) : PT X (.Compare a [op, op', op''] [b, c, d] pos) (tTest (tChain3 r r' r'' ta tb tc td)) := by
  intro pins s σ H Q I h
  refine isTrue_chain (thn (ha pins s σ H _ I h) fun v s1 ⟨x, H1, I1, r1, q1⟩ => test_link (thn (hb pins s1 σ H1 _ I1 q1) fun u s2 ⟨y, H2, I2, r2, q2⟩ =>
    thn (ho pins s2 σ H2 x y v u _ I2 r1 r2 q2) fun d s3 ⟨z, H3, I3, r3, k, e, q3⟩ => ?_)) hm
  subst e
  cases r3
  refine wpAny_truthy_bool ?_
  cases k with
  | false =>
    obtain ⟨k', e', q'⟩ := q3
    cases e'
    exact ite_ff ⟨H3, I3, q'⟩
  | true =>
    refine ite_tt (test_link (thn (hc pins s3 σ H3 _ I3 q3) fun w' s4 ⟨z', H4, I4, r4, q4⟩ => thn (ho' pins s4 σ H4 y z' u w' _ I4 r2 r4 q4) fun d' s5 ⟨z2, H5, I5, r5, k2, e2, q5⟩ => ?_))
    subst e2
    cases r5
    refine wpAny_truthy_bool ?_
    cases k2 with
    | false =>
      obtain ⟨k', e', q'⟩ := q5
      cases e'
      exact ite_ff ⟨H5, I5, q'⟩
    | true =>
      refine ite_tt (test_last (thn (hd pins s5 σ H5 _ I5 q5) fun w2 s6 ⟨z3, H6, I6, r6, q6⟩ => thn (ho'' pins s6 σ H6 z' z3 w' w2 _ I6 r4 r6 q6) fun d2 s7 ⟨z4, H7, I7, r7, k3, e3, q7⟩ => ?_))
      subst e3
      cases r7
      exact wpAny_truthy_bool ⟨H7, I7, q7⟩
end

/-! ### enumerate over a list, its pairs taken apart -/
def Ite (K : PySem.W.Frag) (a : Addr) : It :=
  ⟨fun i H => ∃ xs x, SqL K H a xs ∧ xs[i]? = some x,
   fun i H x H' => ∃ p v, x = .ref p ∧ H p = none ∧ H' = upd H p (.tup [.int (i : Nat), v]) ∧ ∀ xs, SqL K H a xs → xs[i]? = some v,
   fun i H => ∃ xs, SqL K H a xs ∧ xs.length ≤ i⟩
theorem turn_enum {P : Program} {w : World} {K : PySem.W.Frag} {es : List Expr} {k : Nat} {tp : Pos} (a e it : Addr) (hne : e ≠ it) :
    Turn P w K (.Tuple es k tp) (Ite K a) [e, it] e (fun i h => (∃ old, IsEnum h e it ((i : Nat) : Int) old) ∧ h.IsListIter it a i) where
  mem := by simp
  obj := fun i h st b hb => by
    obtain ⟨⟨old, he⟩, o, hi, c, d⟩ := st
    rcases List.mem_cons.mp hb with q | hb
    · subst q
      exact ⟨_, he, fun v z => by
        have z' : Data.fields _ = Data.cell v := z
        cases z'⟩
    · have q : b = it := by simpa using hb
      subst q
      exact ⟨o, hi, fun v z => by rw [d] at z; cases z⟩
  keep := fun i h h' st k => by
    obtain ⟨⟨old, he⟩, hi⟩ := st
    exact ⟨⟨old, k e (by simp) _ he⟩, hi.at fun o x => k it (by simp) o x⟩
  item := by
    intro X hP hw hK hc i pins s σ H E I hf st hg
    subst hP hw hK
    obtain ⟨xs, x, hq, hx⟩ := hg
    obtain ⟨its, rv, p, hz⟩ := I.list hq
    obtain ⟨u, hu, ru⟩ := rv.get hx
    obtain ⟨⟨old, he⟩, hit⟩ := st
    have fe := hf e (by simp)
    have fi := hf it (by simp)
    refine wpAny_pyNext_enum_item he hit p.isList (x := u) (by simpa using hu) hne fun h' ho hit' ht hsz hk => ?_
    refine ⟨_, rfl, ?_⟩
    refine wpAny_letOwnedTupleGo_enum (s := { s with heap := h', toks := s.toks + 1 }) ho fun h2 he2 hs2 => ?_
    have hel : e < s.heap.objs.size := Heap.lt_size he
    have keep2 : ∀ b o, b ≠ e → b ≠ it → s.heap.get? b = some o → h2.get? b = some o := fun b o h1 h3 h4 => (hs2.2 b h1).trans (hk b o h1 h3 h4)
    have hT : h2.get? s.heap.objs.size = some { cls := .type "tuple", data := .seq #[.int i s.toks, u] } := (hs2.2 _ (Nat.ne_of_gt hel)).trans ht
    have hn : H s.heap.objs.size = none := I.hok.fresh (Nat.le_refl _)
    have ne2 : ∀ b o, H b = some o → b ≠ e ∧ b ≠ it := fun b o hb => ⟨ne_of_none hb fe.1, ne_of_none hb fi.1⟩
    have hok : HOk X.prog X.w (upd H s.heap.objs.size (.tup [.int (i : Nat), x])) h2 := by
      intro b o hb
      by_cases q : b = s.heap.objs.size
      · subst q
        rw [upd_same] at hb
        cases hb
        exact ⟨by show 2 ≤ sizeLine; decide, [.int i s.toks, u], .cons ⟨_, rfl⟩ (.cons ru .nil), ⟨_, hT, rfl, _, rfl⟩⟩
      · rw [upd_ne q] at hb
        refine (I.hok b o hb).stay (fun b' o' hb' e' => ?_) (fun b' hb' => ?_) (fun b' xs' hb' => ?_)
        · rcases hb' with q' | q'
          · subst q'
            exact keep2 _ _ (ne2 _ _ hb).1 (ne2 _ _ hb).2 e'
          · exact keep2 _ _ (ne2 _ _ q').1 (ne2 _ _ q').2 e'
        · rw [upd_ne (ne_of_none hb' hn)]; exact hb'
        · rw [upd_ne (ne_of_none hb' hn)]; exact hb'
    have I2 : Inv X pins σ (upd H s.heap.objs.size (.tup [.int (i : Nat), x])) { s with heap := h2, toks := s.toks + 1 } := by
      refine I.step (ch := [e, it]) (g' := s.gens) (d' := s.drawn) (t' := s.toks + 1) ?_ ?_ ?_ ?_ ?_ ?_ ?_ ?_ ?_ hok I.bare
      · intro b hb
        rcases List.mem_cons.mp hb with q | hb
        · subst q; exact ⟨fe.2.2.2.1, fe.2.1, fe.2.2.2.2.1, fe.2.2.2.2.2⟩
        · have q : b = it := by simpa using hb
          subst q; exact ⟨fi.2.2.2.1, fi.2.1, fi.2.2.2.2.1, fi.2.2.2.2.2⟩
      · intro b o _ _ hb h1 _
        exact keep2 b o (fun q => hb (by simp [q])) (fun q => hb (by simp [q])) h1
      · intro b o _ _ hb h1 _
        exact ⟨o.slots, keep2 b o (fun q => hb (by simp [q])) (fun q => hb (by simp [q])) h1⟩
      · intro b o hb h1 h3
        rw [upd_ne (Nat.ne_of_lt (Heap.lt_size h1))]; exact h3
      · intro b o hb h1
        exact ⟨o, keep2 b o (fun q => hb (by simp [q])) (fun q => hb (by simp [q])) h1⟩
      · intro b xs' hb; rw [upd_ne (ne_of_none hb hn)]; exact hb
      · intro b o u' hb; rw [upd_ne (ne_of_none hb hn)]; exact hb
      · intro b ps hb; refine ⟨#[], ?_⟩; rw [upd_ne (ne_of_none hb hn)]; simpa using hb
      · intro m hm
        exact hm.at' fun o e' => keep2 _ o (Ne.symm fe.2.1) (Ne.symm fi.2.1) e'
    refine ⟨.ref s.heap.objs.size, _, I2, rfl, ⟨_, x, rfl, hn, rfl, fun ys hy => by rw [I.list_inj hy hq]; exact hx⟩, ⟨⟨u, ?_⟩, hit'.at fun o y => (hs2.2 it hne.symm).trans y⟩, fun b hb => ?_⟩
    · have z := he2
      simpa using z
    · rw [upd_ne]
      · exact (hf b hb).1
      · rcases List.mem_cons.mp hb with q | hb
        · subst q; exact Nat.ne_of_lt hel
        · have q : b = it := by simpa using hb
          subst q
          obtain ⟨o, ho', _⟩ := hit
          exact Nat.ne_of_lt (Heap.lt_size ho')
  done := by
    intro X hP hw hK hc i pins s σ H E I hf st hg
    subst hP hw hK
    obtain ⟨xs, hq, hx⟩ := hg
    obtain ⟨its, rv, p, hz⟩ := I.list hq
    obtain ⟨⟨old, he⟩, hit⟩ := st
    obtain ⟨f0, f1, f2, f3, f4, f5⟩ := hf it (by simp)
    have hl := rv.length
    exact wpAny_pyNext_enum_end (I.ok.hd hc) he hit p.isList (by simp; omega) fun h' eb => ⟨rfl, I.turned (t' := s.toks) (fun b o hb e => eb b o hb e) f0 f1 f3 f4 f5⟩
  self := fun _ _ _ _ _ st h => by
    obtain ⟨⟨old, he⟩, _⟩ := st
    exact wpAny_pyIter_enum he h
section
variable {X : Cx}
def iEnum (K : PySem.W.Frag) (ta : TA) : TI := fun σ H R => ta σ H fun vs H1 => ∃ a, vs = [.ref a] ∧ (∃ xs, SqL K H1 a xs) ∧ R (Ite K a) H1
theorem pi_enum {es : List Expr} {k : Nat} {tp : Pos} {a : Expr} {ta : TA} {p pos : Pos} (hg : Gl X "enumerate") (hm : X.mg "enumerate" = none) (ha : PA X [a] ta) (hs : starEach [a] X.env = [(false, eval a X.env)] := by rfl) :
    PI X (.Tuple es k tp) (.Call (.Name "enumerate" p) [a] [] pos) (iEnum X.K ta) := by
  intro pins s σ H R I h
  refine Call_ (ld_blt I hg hm boot_enumerate (PyProof.Rows.callWith_type1 (thn (ha pos pins s σ H _ I h) fun us s1 ⟨vs, H1, I1, r1, q1⟩ => ?_) hs rfl))
  obtain ⟨a', e, ⟨xs, hq⟩, q⟩ := q1
  subst e
  cases r1 with
  | cons r rr =>
    cases rr
    cases r
    obtain ⟨its, rv, p, hz⟩ := I1.list hq
    refine call_enumerate_list p.isList fun h' he hi hsz hk => ?_
    refine wpAny_pyIter_enum (s := { s1 with heap := h' }) he ?_
    have I2 : Inv X pins σ H1 { s1 with heap := h' } := I1.kept (t' := s1.toks) hk
    refine ⟨s1.heap.objs.size + 1, [s1.heap.objs.size + 1, s1.heap.objs.size], _, _, H1, rfl, I2, turn_enum a' _ _ (Nat.succ_ne_self _), ⟨⟨_, he⟩, hi⟩, fun b hb => ?_, q⟩
    rcases List.mem_cons.mp hb with e | hb
    · subst e; exact I1.fpOk (Nat.le_succ _) (I1.hok.fresh (Nat.le_succ _))
    · have e : b = s1.heap.objs.size := by simpa using hb
      subst e; exact I1.fpOk (Nat.le_refl _) (I1.hok.fresh (Nat.le_refl _))
end
theorem for_enum {K : PySem.W.Frag} {a : Addr} {xs : List V} {g : TG} {tb : TS} {D : Ends} {σ : St} {H : Hp} (Pv : Nat → St → Hp → Prop) (h0 : Pv 0 σ H) (hl : ∀ i σ H, i ≤ xs.length → Pv i σ H → SqL K H a xs)
    (hs : ∀ i x p σ H, xs[i]? = some x → Pv i σ H → H p = none → g (.ref p) σ (upd H p (.tup [.int (i : Nat), x])) fun σ2 H2 => tb { D with nx := Pv (i + 1), ct := Pv (i + 1), bk := D.nx } σ2 H2) (hd : ∀ σ H, Pv xs.length σ H → D.nx σ H) :
    ∃ W : Nat → Nat → St → Hp → Prop, (∃ m, W 0 m σ H) ∧ ∀ i m σ H, W i m σ H →
      ((Ite K a).stop i H ∧ D.nx σ H) ∨ ((Ite K a).go i H ∧ ∃ N : St → Hp → Prop, (∀ σ' H', N σ' H' → ∃ m', m' < m ∧ W (i + 1) m' σ' H') ∧ ∀ x H', (Ite K a).yld i H x H' → g x σ H' fun σ2 H2 => tb { D with nx := N, ct := N, bk := D.nx } σ2 H2) := by
  refine ⟨fun i m σ H => m = xs.length - i ∧ i ≤ xs.length ∧ Pv i σ H, ⟨xs.length, by simp, Nat.zero_le _, h0⟩, ?_⟩
  rintro i m σ H ⟨rfl, hi, p⟩
  have q := hl i σ H hi p
  by_cases hlt : i < xs.length
  · refine .inr ⟨⟨xs, xs[i], q, by simp [hlt]⟩, Pv (i + 1), fun σ' H' p' => ⟨xs.length - (i + 1), by omega, rfl, hlt, p'⟩, fun x H' y => ?_⟩
    obtain ⟨t, v, e, ht, e', y⟩ := y
    subst e e'
    exact hs i v t σ _ (y xs q) p ht
  · have e : i = xs.length := by omega
    subst e
    exact .inl ⟨⟨xs, q, Nat.le_refl _⟩, hd σ H p⟩

/-! ### isinstance as a call -/
section
variable {X : Cx} {pins : List (Addr × Obj)} {σ : St} {H : Hp} {s : Shared}
theorem TyOf.kit {x : V} {u t : Value} (I : Inv X pins σ H s) (rx : RelV x u) (ty : TyOf X.K H x t) :
    ∃ Hh, PySem.W.KitX X.K u t Hh ∧ Hh s.heap ∧ u ≠ .builtin "__main__.__loader__#opaque" := by
  cases ty with
  | non => cases (show u = Value.none from rx); exact ⟨_, PySem.W.kitx_none, True.intro, fun z => nomatch z⟩
  | bl y => cases (show u = Value.bool y from rx); exact ⟨_, PySem.W.kitx_bool, True.intro, fun z => nomatch z⟩
  | int i => obtain ⟨t, q⟩ := (show ∃ t, u = Value.int i t from rx); cases q; exact ⟨_, PySem.W.kitx_int, True.intro, fun z => nomatch z⟩
  | str y => obtain ⟨t, q⟩ := (show ∃ t, u = Value.str y t from rx); cases q; exact ⟨_, PySem.W.kitx_str, True.intro, fun z => nomatch z⟩
  | flt y => obtain ⟨t, q⟩ := (show ∃ t, u = Value.float y t from rx); cases q; exact ⟨_, PySem.W.kitx_float, True.intro, fun z => nomatch z⟩
  | @lst a xs ea =>
    cases (show u = Value.ref a from rx)
    obtain ⟨_, _, n, _, h1⟩ := (show ObjOk X.prog X.w H s.heap a (.lst xs) from I.hok a _ ea)
    exact ⟨_, PySem.W.kitx_list, ⟨_, h1, rfl⟩, fun z => nomatch z⟩
  | @frz a ob xs ea =>
    cases (show u = Value.ref a from rx)
    obtain ⟨_, _, _, n, _, h1⟩ := (show ObjOk X.prog X.w H s.heap a (.frz ob (.lst xs)) from I.hok a _ ea)
    exact ⟨_, PySem.W.kitx_list, ⟨_, h1, rfl⟩, fun z => nomatch z⟩
  | @tup a xs ea =>
    cases (show u = Value.ref a from rx)
    obtain ⟨_, _, _, p⟩ := (show ObjOk X.prog X.w H s.heap a (.tup xs) from I.hok a _ ea)
    obtain ⟨o, h1, h2, _⟩ := p
    exact ⟨_, PySem.W.kitx_tuple, ⟨o, h1, h2⟩, fun z => nomatch z⟩
  | @dK a kvs ea =>
    cases (show u = Value.ref a from rx)
    obtain ⟨_, _, vs, _, p⟩ := (show ObjOk X.prog X.w H s.heap a (.dK kvs) from I.hok a _ ea)
    obtain ⟨o, es, ep, h1, h2, _⟩ := p
    exact ⟨_, PySem.W.kitx_dict, ⟨o, h1, h2.1⟩, fun z => nomatch z⟩
  | @dT a kvs ea =>
    cases (show u = Value.ref a from rx)
    obtain ⟨_, _, xs, _, o, es, ep, h1, h2, _⟩ := (show ObjOk X.prog X.w H s.heap a (.dT kvs) from I.hok a _ ea)
    exact ⟨_, PySem.W.kitx_dict, ⟨o, h1, h2.1⟩, fun z => nomatch z⟩
  | @ins a C dx fs ea cl ha hn htk hm =>
    cases (show u = Value.ref a from rx)
    obtain ⟨mA, O, _⟩ := ins_get I.hok ea
    obtain ⟨od, J, _⟩ := O.look
    exact ⟨_, PySem.W.kitx_own (cl.get _) cl.hd ha hn htk hm, J, fun z => nomatch z⟩
/-- isinstance(x, T), T a built-in type -/
def rIsi (K : PySem.W.Frag) : List V → Hp → VK → Prop := fun xs H Q => ∃ x t n b, xs = [x, .ty n] ∧ TyOf K H x t ∧ PySem.W.kitOne K t (.type n) = some b ∧ Q (.bl b) H
theorem call_isi : CallR X (.builtin "isinstance") (rIsi X.K) := by
  intro pins s σ H xs us Q I r h
  obtain ⟨x, t, n, b, rfl, ty, e, q⟩ := h
  obtain ⟨u, w', rfl, rx, rn⟩ := vals2 r
  cases rn
  obtain ⟨Hh, Z, z, ne⟩ := ty.kit I rx
  exact PySem.W.kia_one Z I.kIn z e ne fun tk => ⟨.bl b, H, I.tok tk, rfl, q⟩
/-- isinstance(x, (T, U)) -/
def rIsi2 (K : PySem.W.Frag) : List V → Hp → VK → Prop := fun xs H Q => ∃ x t p n m b, xs = [x, .ref p] ∧ SqT K H p [.ty n, .ty m] ∧ TyOf K H x t ∧ PySem.W.kitAny K t [.type n, .type m] = some b ∧ Q (.bl b) H
theorem call_isi2 : CallR X (.builtin "isinstance") (rIsi2 X.K) := by
  intro pins s σ H xs us Q I r h
  obtain ⟨x, t, p, n, m, b, rfl, hq, ty, e, q⟩ := h
  obtain ⟨u, w', rfl, rx, rn⟩ := vals2 r
  cases rn
  obtain ⟨Hh, Z, z, ne⟩ := ty.kit I rx
  obtain ⟨its, r', pl, hz⟩ := I.tuple hq
  obtain ⟨u1, u2, rfl, e1, e2⟩ := vals2 r'
  cases e1
  cases e2
  obtain ⟨⟨cl, dd, dt, sl⟩, ho, hc, k, hd⟩ := pl
  replace hc : cl = .type "tuple" := hc
  replace hd : dt = .seq [Value.type n, Value.type m].toArray k := hd
  subst hc hd
  exact PySem.W.kia_tup Z I.kIn z ho e ne fun tk => ⟨.bl b, H, I.tok tk, rfl, q⟩
end
section
variable {K : PySem.W.Frag}
theorem kit_ii : PySem.W.kitOne K (.type "int") (.type "int") = some true := by kernel_rfl
theorem kit_ib : PySem.W.kitOne K (.type "int") (.type "bool") = some false := by kernel_rfl
theorem kit_il : PySem.W.kitOne K (.type "int") (.type "list") = some false := by kernel_rfl
theorem kit_it : PySem.W.kitOne K (.type "int") (.type "tuple") = some false := by kernel_rfl
theorem kit_is : PySem.W.kitOne K (.type "int") (.type "str") = some false := by kernel_rfl
theorem kit_bi : PySem.W.kitOne K (.type "bool") (.type "int") = some true := by kernel_rfl
theorem kit_bb : PySem.W.kitOne K (.type "bool") (.type "bool") = some true := by kernel_rfl
theorem kit_ll : PySem.W.kitOne K (.type "list") (.type "list") = some true := by kernel_rfl
theorem kit_lt : PySem.W.kitOne K (.type "list") (.type "tuple") = some false := by kernel_rfl
theorem kit_ls : PySem.W.kitOne K (.type "list") (.type "str") = some false := by kernel_rfl
theorem kit_tl : PySem.W.kitOne K (.type "tuple") (.type "list") = some false := by kernel_rfl
theorem kit_tt : PySem.W.kitOne K (.type "tuple") (.type "tuple") = some true := by kernel_rfl
theorem kit_ts : PySem.W.kitOne K (.type "tuple") (.type "str") = some false := by kernel_rfl
theorem kit_ss : PySem.W.kitOne K (.type "str") (.type "str") = some true := by kernel_rfl
theorem kit_sl : PySem.W.kitOne K (.type "str") (.type "list") = some false := by kernel_rfl
theorem kit_st : PySem.W.kitOne K (.type "str") (.type "tuple") = some false := by kernel_rfl
theorem kitA_i : PySem.W.kitAny K (.type "int") [.type "list", .type "tuple"] = some false := by kernel_rfl
theorem kitA_l : PySem.W.kitAny K (.type "list") [.type "list", .type "tuple"] = some true := by kernel_rfl
theorem kitA_t : PySem.W.kitAny K (.type "tuple") [.type "list", .type "tuple"] = some true := by kernel_rfl
theorem kitA_s : PySem.W.kitAny K (.type "str") [.type "list", .type "tuple"] = some false := by kernel_rfl
end

/-! ### xs != [] -/
section
variable {X : Cx}
def rNeNil (K : PySem.W.Frag) : R2 := fun x y H Q => ∃ a b xs, x = .ref a ∧ y = .ref b ∧ SqL K H a xs ∧ SqL K H b [] ∧ Q (.bl (!xs.isEmpty)) H
theorem op_neNil (hu : X.A.units < cLine) : OpR X (compareOp .NotEq) (rNeNil X.K) := by
  intro pins s σ H x y v u Q I rx ry h
  obtain ⟨a, b, xs, rfl, rfl, ha, hb, q⟩ := h
  cases rx
  cases ry
  obtain ⟨its, r, pl, hz⟩ := I.list ha
  obtain ⟨its2, r2, pl2, hz2⟩ := I.list hb
  have e2 : its2 = [] := r2.zero
  subst e2
  have hl := r.length
  cases xs with
  | nil =>
    have e : its = [] := List.length_eq_zero_iff.mp hl.symm
    subst e
    have z := SeqAt.RcNeAt.lists (A := X.A) (s := s) (e := fun _ => true) pl.isList pl2.isList rfl hu (fun j h1 _ => by simp at h1) X.prog X.w X.xe (EP X pins σ Q) ⟨.bl false, H, I, rfl, q⟩
    exact z
  | cons y ys =>
    have hne : (its.toArray.size != ([] : List Value).toArray.size) = true := by
      rw [List.size_toArray, ← hl]
      simp
    exact SeqAt.RcNeAt.lists_lengths (A := X.A) (s := s) pl.isList pl2.isList hne hu X.prog X.w X.xe (EP X pins σ Q) ⟨.bl true, H, I, rfl, q⟩
end
end L2

namespace L2
open PySem PySem.Spec PyProof.Rows
/-! ### a list comprehension of one clause -/
theorem Un.off {fs ex : List Addr} {H H1 : Hp} {h h1 h' : Heap} {C : Addr} (u : Un fs ex H H1 h h1) (hC : h.objs.size ≤ C) (sb : Heap.SameBut C h1 h') : Un fs ex H H1 h h' := by
  have ne : ∀ b o, h.get? b = some o → b ≠ C := fun b o e => Nat.ne_of_lt (Nat.lt_of_lt_of_le (Heap.lt_size e) hC)
  refine ⟨?_, ?_, u.free, ?_, u.tups, u.frzs, u.tbls⟩
  · intro b o e n f x
    exact (sb.2 b (ne b o e)).trans (u.keep b o e n f x)
  · intro b o e n f x
    obtain ⟨sl, z⟩ := u.slot b o e n f x
    exact ⟨sl, (sb.2 b (ne b o e)).trans z⟩
  · intro b o e x
    obtain ⟨o', z⟩ := u.there b o e x
    exact ⟨o', (sb.2 b (ne b o e)).trans z⟩
theorem HOk.off {P : Program} {w : World} {H : Hp} {h h' : Heap} {C : Addr} (x : HOk P w H h) (n : H C = none) (sb : Heap.SameBut C h h') : HOk P w H h' := fun a o e =>
  (x a o e).stay (fun b u hb q => by
    have nb : b ≠ C := by
      rcases hb with z | z
      · rw [z]; exact ne_of_none e n
      · exact ne_of_none z n
    exact (sb.2 b nb).trans q) (fun _ z => z) fun _ _ z => z
/-- the context of the block -/
def cxLc (X : Cx) (scope : Scope) (N : List Str) (cl : List (Str × Addr)) (s : Shared) (H : Hp) (pins : List (Addr × Obj)) (fp : List Addr) : Cx where
  prog := X.prog
  w := X.w
  K := X.K
  mg := X.mg
  base := X.base
  A := X.A
  N := N
  s₀ := s
  H₀ := H
  env := compEnvC scope cl s.heap.objs.size X.env
  outer := X.stack
  stack := X.stack
  ex := fp
  fn := fun _ => false
  calm := X.calm
  pn := X.pn ++ pins
  xe := X.xe
/-- the block's names at its start: own ones, then names of the def -/
def lcStart (own : Nat) (fr : List Nat) (σ : St) : St := List.replicate own none ++ fr.map fun k => (σ[k]?).join
structure LcFree (X : Cx) (scope : Scope) (cl : List (Str × Addr)) (N : List Str) (own : Nat) (fr : List Nat) : Prop where
  len : N.length = own + fr.length
  at_ : ∀ (j k : Nat), fr[j]? = some k → ∃ x, N[own + j]? = some x ∧ X.N[k]? = some x ∧ Vis X.env.scope x ∧ X.env.kindOf x ≠ some .local ∧ (∀ c, X.env.cells.lookup x = some c → cl.lookup x = some c) ∧
    ((relabel scope X.env).names.lookup x = some .cell ∨ (relabel scope X.env).names.lookup x = some .free)
  clo : ∀ x c, cl.lookup x = some c → X.env.cells.lookup x = some c
  has : ∀ x, ((relabel scope X.env).names.lookup x = some .cell ∨ (relabel scope X.env).names.lookup x = some .free) → ∃ c, cl.lookup x = some c
theorem lookup_mem {α : Type} {x : Str} {k : α} : ∀ {l : List (Str × α)}, l.lookup x = some k → (x, k) ∈ l
  | [], h => by cases h
  | (y, j) :: r, h => by
    rw [List.lookup_cons] at h
    cases e : x == y with
    | true =>
      rw [e] at h
      cases h
      rw [eq_of_beq e]
      exact List.mem_cons_self
    | false =>
      rw [e] at h
      exact List.mem_cons_of_mem _ (lookup_mem h)
theorem LcFree.nil {X : Cx} {scope : Scope} {N : List Str} {own : Nat} (L : List (Str × NameKind)) (hL : (relabel scope X.env).names = L) (hN : N.length = own) (h : ∀ y ∈ L, y.2 ≠ .cell ∧ y.2 ≠ .free) : LcFree X scope [] N own [] where
  len := hN
  at_ := fun j k e => by simp at e
  clo := fun x c e => by simp at e
  has := fun x e => by
    rw [hL] at e
    rcases e with e | e
    · exact absurd rfl (h _ (lookup_mem e)).1
    · exact absurd rfl (h _ (lookup_mem e)).2
/-- one name of the def -/
theorem LcFree.one {X : Cx} {scope : Scope} {N : List Str} {own k : Nat} {x : Str} {c : Addr} (L : List (Str × NameKind)) (hL : (relabel scope X.env).names = L) (hN : N.length = own + 1) (hx : N[own]? = some x) (hk : X.N[k]? = some x) (hv : X.env.scope.names.lookup x = some .cell) (hc : X.env.cells.lookup x = some c)
    (hr : L.lookup x = some .cell) (h : ∀ y ∈ L, (y.2 = .cell ∨ y.2 = .free) → y.1 = x) : LcFree X scope [(x, c)] N own [k] where
  len := hN
  at_ := fun j k' e => by
    cases j with
    | zero =>
      cases e
      refine ⟨x, hx, hk, .inr (.inl hv), ?_, fun c' e' => ?_, .inl (by rw [hL]; exact hr)⟩
      · show X.env.scope.names.lookup x ≠ some .local
        rw [hv]
        intro z
        cases z
      · rw [hc] at e'
        cases e'
        show List.lookup x [(x, c)] = some c
        simp [List.lookup_cons]
    | succ j => simp at e
  clo := fun y c' e => by
    have z := lookup_mem e
    rw [List.mem_singleton] at z
    cases z
    exact hc
  has := fun y e => by
    rw [hL] at e
    have z : y = x := by
      rcases e with e | e
      · exact h _ (lookup_mem e) (.inl rfl)
      · exact h _ (lookup_mem e) (.inr rfl)
    subst z
    exact ⟨c, by simp [List.lookup_cons]⟩
theorem lc_loop {prog : Program} {w : World} {A : Around} {R : Result → Shared → Prop} {s : Shared} {elt tg iter : Expr} {scope : Scope} {pos : Pos} {it acc : Value} {env : Env} (J : Nat → Shared → Prop)
    (turn : ∀ n s, J n s → wpAny (model prog w) A (pyNext it) (fun r s1 => match r with
      | none => R (.ok .next) s1
      | some v => wpAny (model prog w) A (letOwnedTupleGo tg it v) (fun _ s2 => wpAny (model prog w) A (assign tg env v) (fun _ s3 => wpAny (model prog w) A (eval elt env) (fun x s4 =>
          wpAny (model prog w) A (call (.builtin "list.append") [acc, x]) (fun _ s5 => ∃ m, m < n ∧ J m s5) (fun _ _ => False) s4) (fun _ _ => False) s3) (fun _ _ => False) s2) (fun _ _ => False) s1) (fun _ _ => False) s)
    (n : Nat) (h : J n s) : codeAny (model prog w) A (.compLoop (.ListComp elt [⟨tg, iter, [], 0⟩] scope pos) 0 it acc env) R s := by
  refine codeAny_loop rfl J (fun n s hI => ?_) n h
  show wpAny _ A ((compTurn (.ListComp elt [⟨tg, iter, [], 0⟩] scope pos) 0 it acc env).onRaise (fun x => do noteFrame x env; theTreesLotGoes x)) _ _ s
  refine wpAny_noted ?_
  rw [compTurn_list1]
  refine wpAny_bind (wpAny_standAt (wpAny_bind (wpAny_mono (turn n s hI) (fun r s1 h1 => ?_) fun _ _ z => z.elim)))
  cases r with
  | none => exact wpAny_pure h1
  | some v =>
    refine wpAny_bind (wpAny_mono h1 (fun _ s2 h2 => wpAny_bind (wpAny_mono h2 (fun _ s3 h3 => wpAny_bind (wpAny_bind (wpAny_mono h3 (fun x s4 h4 => wpAny_bind (wpAny_mono h4
      (fun _ s5 h5 => wpAny_pure (wpAny_pure ⟨rfl, h5⟩)) fun _ _ z => z.elim)) fun _ _ z => z.elim))) fun _ _ z => z.elim)) fun _ _ z => z.elim)
section
variable {X : Cx} {elt tg iter : Expr} {scope : Scope} {pos : Pos} {wi : TI} {g : TG} {te : TE} {N : List Str} {own : Nat} {fr : List Nat} {cl : List (Str × Addr)}
/-- the reading: D is the new list; W the word by the turn and a measure, over the block's names -/
def tLc (wi : TI) (g : TG) (te : TE) (own : Nat) (fr : List Nat) : TE := fun σ H Q => wi σ H fun J H1 => ∀ D, H1 D = none → ∃ W : Nat → Nat → St → Hp → Prop, (∃ m, W 0 m (lcStart own fr σ) (upd H1 D (.lst []))) ∧ ∀ i m σ' H', W i m σ' H' →
  (J.stop i H' ∧ Q (.ref D) H') ∨ (J.go i H' ∧ ∀ x H2, J.yld i H' x H2 → g x σ' H2 fun σ3 H3 => te σ3 H3 fun y H4 => ∃ ys, H4 D = some (.lst ys) ∧ ys.length < sizeLine ∧ ∃ m', m' < m ∧ W (i + 1) m' σ3 (upd H4 D (.lst (ys ++ [y]))))
/-- what the block comes to: the comprehension's own objects apart -/
theorem lc_block (hx : X.xe = fun _ _ => False) (hc : X.calm = true) (F : LcFree X scope cl N own fr) (hk : scope.kind = .function) (hcell : ∀ y ∈ scope.names, y.2 ≠ .cell)
    (hg : ∀ s H pins fp, PG (cxLc X scope N cl s H pins fp) tg g) (he : ∀ s H pins fp, PE (cxLc X scope N cl s H pins fp) elt te)
    {pins : List (Addr × Obj)} {σ : St} {Q : VK} {s2 : Shared} {itv : Value} {RR : Value → Addr → Result → Shared → Prop} {E : Value → Shared → Prop}
    (h : PIE X pins σ tg (fun J H1 => ∀ D, H1 D = none → ∃ W : Nat → Nat → St → Hp → Prop, (∃ m, W 0 m (lcStart own fr σ) (upd H1 D (.lst []))) ∧ ∀ i m σ' H', W i m σ' H' →
      (J.stop i H' ∧ Q (.ref D) H') ∨ (J.go i H' ∧ ∀ x H2, J.yld i H' x H2 → g x σ' H2 fun σ3 H3 => te σ3 H3 fun y H4 => ∃ ys, H4 D = some (.lst ys) ∧ ys.length < sizeLine ∧ ∃ m', m' < m ∧ W (i + 1) m' σ3 (upd H4 D (.lst (ys ++ [y]))))) itv s2)
    (hRR : ∀ (D C : Addr) (H' : Hp) (s' : Shared), Q (.ref D) H' → (∃ m, s'.heap.Ns C m) → H' C = none → C ≠ X.env.locals → (∀ x c, X.env.cells.lookup x = some c → c ≠ C) → (∀ p ∈ X.pn ++ pins, p.1 ≠ C) → X.s₀.heap.objs.size ≤ C →
      (∀ h', Heap.SameBut C s'.heap h' → Inv X pins σ H' { s' with heap := h' }) → RR (.ref D) C (.ok .next) s') :
    wpAny (model X.prog X.w) X.A (newList []) (fun acc s3 => wpAny (model X.prog X.w) X.A (newFunctionEnv scope X.env.globals cl [] X.env.qual none .none (some X.env)) (fun cenv s4 =>
      codeAny (model X.prog X.w) X.A (.compStart (.ListComp elt [⟨tg, iter, [], 0⟩] scope pos) 0 itv acc { cenv with scope := relabel scope X.env }) (RR acc cenv.locals) s4) E s3) E s2 := by
  obtain ⟨it, fp, tn, J, H2, e, I2, T, st2, f2, q⟩ := h
  subst e
  obtain ⟨W, ⟨m0, w0⟩, turn⟩ := q s2.heap.objs.size I2.fresh
  have I3 := I2.lnew (ys := []) (its := []) (t' := s2.toks) .nil (Nat.zero_le _)
  refine wpAny_newList (items := []) ?_ (Nat.zero_le _)
  generalize hH3 : upd H2 s2.heap.objs.size (.lst []) = H3 at w0 I3
  generalize hs3 : ({ s2 with heap := s2.heap.push { cls := .type "list", data := .seq ([] : List Value).toArray }, toks := s2.toks } : Shared) = s3 at I3
  have fp2 : ∀ b ∈ fp, b < s2.heap.objs.size := fun b hb => by
    obtain ⟨o, eo, _⟩ := T.obj _ _ st2 b hb
    exact Heap.lt_size eo
  have size3 : s3.heap.objs.size = s2.heap.objs.size + 1 := by rw [← hs3]; exact Heap.size_push ..
  have old3 : ∀ b o, s2.heap.get? b = some o → s3.heap.get? b = some o := fun b o z => by rw [← hs3]; exact Heap.get?_push_of_some _ z
  have st3 : tn 0 s3.heap := T.keep _ _ _ st2 fun b _ o z => old3 b o z
  have f3 : ∀ b ∈ fp, FpOk X pins H3 b := fun b hb => ⟨by rw [← hH3, upd_ne (Nat.ne_of_lt (fp2 b hb))]; exact (f2 b hb).1, (f2 b hb).2⟩
  refine wpAny_newFunctionEnv hcell (by intro y hy; simp at hy) (fun h4 hns4 hsb4 => ?_) hk
  have hC4 : ∀ b o, s3.heap.get? b = some o → h4.get? b = some o := fun b o z => (hsb4.2 b (Nat.ne_of_lt (Heap.lt_size z))).trans (Heap.get?_push_of_some _ z)
  have above : X.s₀.heap.objs.size ≤ s3.heap.objs.size := I3.sz
  have hok' : (cxLc X scope N cl s3 H3 pins fp).Ok := by
    refine ⟨I3.ok.mod, hk, I3.ok.glob, I3.ok.blt, Nat.le_refl _, ?_, ?_, ?_, I3.ok.hd, I3.ok.frames, .inl rfl, ?_, I3.bs, Nat.le_trans I3.ok.bsz I3.sz, ?_, ?_, I3.stack, I3.stkFree⟩
    · intro x y c a b
      exact I3.ok.inj x y c (F.clo x c a) (F.clo y c b)
    · intro x z
      exact F.has x z
    · intro x c z
      cases z
    · intro b hb
      refine ⟨Nat.ne_of_lt (show b < s3.heap.objs.size by rw [size3]; exact Nat.lt_succ_of_lt (fp2 b hb)), fun x c z => (f3 b hb).2.2.2.2.1 x c (F.clo x c z)⟩
    · intro b o z hb
      rcases (f3 b hb).2.2.2.1 with q | q
      · exact I3.ok.noex b o z q
      · exact absurd (Nat.lt_of_lt_of_le (Heap.lt_size z) I3.ok.bsz) (Nat.not_lt.mpr q)
    · intro b hb hf
      rcases List.mem_cons.mp (I3.stkSub b hf) with q | q
      · exact (f3 b hb).2.1 q
      · exact (f3 b hb).2.2.1 q
  have I4 : Inv (cxLc X scope N cl s3 H3 pins fp) [] (lcStart own fr σ) H3 { s3 with heap := h4, toks := s3.toks + ([] : List (Str × Value)).length } := by
    obtain ⟨m, nm, lk⟩ := I3.loc
    refine ⟨hok', rfl, I3.bare, Un.kept hC4, ⟨_, hns4, ?_⟩, ?_, I3.hok.fresh (Nat.le_refl _), ?_, ?_, I3.hok.kept hC4, ?_⟩
    · intro i x v hi hv _
      have hge : ¬ i < own := fun z => by
        unfold lcStart at hv
        rw [List.getElem?_append_left (by rw [List.length_replicate]; exact z), List.getElem?_replicate, if_pos z] at hv
        cases hv
      have hv' : (fr.map fun k => (σ[k]?).join)[i - own]? = some (some v) := by
        unfold lcStart at hv
        rw [List.getElem?_append_right (by rw [List.length_replicate]; omega), List.length_replicate] at hv
        exact hv
      rw [List.getElem?_map] at hv'
      cases ef : fr[i - own]? with
      | none => rw [ef] at hv'; cases hv'
      | some k =>
        rw [ef] at hv'
        have hσ : σ[k]? = some (some v) := by
          have z : (σ[k]?).join = some v := Option.some.inj hv'
          cases eσ : σ[k]? with
          | none => rw [eσ] at z; cases z
          | some y => rw [eσ] at z; exact congrArg some z
        obtain ⟨x', hx1, hx2, hx3, hx4, hx5, hx6⟩ := F.at_ _ _ ef
        have ex : x' = x := by
          rw [show own + (i - own) = i by omega] at hx1
          exact Option.some.inj (hx1.symm.trans hi)
        subst ex
        obtain ⟨u, ru, lu⟩ := lk k x' v hx2 hσ hx3
        refine ⟨u, ru, .inr ⟨hx6, ?_⟩⟩
        rcases lu with ⟨z, _⟩ | ⟨_, c, zc, zi⟩
        · exact absurd z hx4
        · obtain ⟨o, zo, zr⟩ := zi
          exact ⟨c, hx5 c zc, o, hC4 _ _ zo, zr⟩
    · intro x c z
      obtain ⟨v, o, zo, zr⟩ := I3.cell x c (F.clo x c z)
      exact ⟨v, o, hC4 _ _ zo, zr⟩
    · intro x c z
      exact I3.freeC x c (F.clo x c z)
    · intro p hp
      rw [List.append_nil] at hp
      obtain ⟨p1, p2, p3, p4, p5⟩ := I3.pin p hp
      refine ⟨hC4 _ _ p1, p2, Nat.ne_of_lt (Heap.lt_size p1), fun z => ?_, p5⟩
      rcases List.mem_cons.mp (I3.stkSub _ z) with q | q
      · exact p3 q
      · exact p4 q
    · show (lcStart own fr σ).length = N.length
      rw [F.len]
      simp [lcStart]
  have f4 : ∀ {H' : Hp}, (∀ b ∈ fp, H' b = none) → ∀ b ∈ fp, FpOk (cxLc X scope N cl s3 H3 pins fp) [] H' b := fun hn b hb =>
    ⟨hn b hb, (hok'.exf b hb).1, hok'.exfs b hb, .inl hb, (hok'.exf b hb).2, fun p hp => (f3 b hb).2.2.2.2.2 p (by rw [List.append_nil] at hp; exact hp)⟩
  have loop : ∀ s5 : Shared, s5 = { s3 with heap := h4, toks := s3.toks + ([] : List (Str × Value)).length } →
      codeAny (model X.prog X.w) X.A (.compLoop (.ListComp elt [⟨tg, iter, [], 0⟩] scope pos) 0 (.ref it) (.ref s2.heap.objs.size) (compEnvC scope cl s3.heap.objs.size X.env)) (RR (.ref s2.heap.objs.size) s3.heap.objs.size) s5 := by
    rintro s5 rfl
    refine lc_loop (fun n s' => ∃ i σ' H', Inv (cxLc X scope N cl s3 H3 pins fp) [] σ' H' s' ∧ tn i s'.heap ∧ (∀ b ∈ fp, H' b = none) ∧ W i n σ' H') ?_ m0
      ⟨0, _, H3, I4, T.keep _ _ _ st3 fun b _ o z => hC4 b o z, fun b hb => (f3 b hb).1, w0⟩
    rintro n s' ⟨i, σ', H', I', st', fr', w'⟩
    rcases turn i n σ' H' w' with ⟨stop, qn⟩ | ⟨go, step⟩
    · refine thn (T.done (cxLc X scope N cl s3 H3 pins fp) rfl rfl rfl hc i [] s' σ' H' _ I' (f4 fr') st' stop) fun r s6 ⟨hr, I6⟩ => ?_
      subst hr
      refine hRR _ _ H' s6 qn ?_ I6.free ?_ ?_ ?_ above ?_
      · obtain ⟨m, nm, _⟩ := I6.loc
        exact ⟨m, nm⟩
      · exact Ne.symm (Nat.ne_of_lt I3.lt)
      · intro x c z
        obtain ⟨v, o, zo, _⟩ := I3.cell x c z
        exact Nat.ne_of_lt (Heap.lt_size zo)
      · intro p hp
        exact Nat.ne_of_lt (Heap.lt_size (I3.pin p hp).1)
      · intro h' sb
        have u : Un (frs X.stack) fp H3 H' s3.heap s6.heap := I6.base
        exact I3.call' (s' := { s6 with heap := h' }) (ch := fp) I6.os (u.off (Nat.le_refl _) sb) (I6.hok.off I6.free sb) I6.bare fun b hb => ⟨(f3 b hb).2.2.2.1, (f3 b hb).2.1, (f3 b hb).2.2.2.2.1, (f3 b hb).2.2.2.2.2⟩
    · refine thn (T.item (cxLc X scope N cl s3 H3 pins fp) rfl rfl rfl hc i [] s' σ' H' _ I' (f4 fr') st' go) fun r s6 ⟨u, hr, h6⟩ => ?_
      subst hr
      refine thn h6 fun _ s7 ⟨x, H7, I7, r7, y7, st7, fr7⟩ => ?_
      have I7' := I7.pinned (f4 fr7) (T.obj _ _ st7)
      have gg := hg s3 H3 pins fp _ s7 σ' H7 x u _ I7' r7 (step x H7 y7)
      rw [show (cxLc X scope N cl s3 H3 pins fp).xe = fun _ _ => False from hx] at gg
      refine thn gg fun _ s8 ⟨σ8, H8, I8, q8⟩ => ?_
      have ee := he s3 H3 pins fp _ s8 σ8 H8 _ I8 q8
      rw [show (cxLc X scope N cl s3 H3 pins fp).xe = fun _ _ => False from hx] at ee
      refine thn ee fun uy s9 ⟨y, H9, I9, r9, ys, e9, l9, m', hm, w9⟩ => ?_
      have aa := mt_append (X := cxLc X scope N cl s3 H3 pins fp) _ s9 σ8 H9 (.ref s2.heap.objs.size) [y] (.ref s2.heap.objs.size) [uy] (fun _ Hz => Hz = upd H9 s2.heap.objs.size (.lst (ys ++ [y]))) I9 rfl (.cons r9 .nil) ⟨_, ys, y, rfl, rfl, e9, l9, rfl⟩
      rw [show (cxLc X scope N cl s3 H3 pins fp).xe = fun _ _ => False from hx] at aa
      refine thn aa fun _ s10 ⟨v, H10, I10, _, e10⟩ => ?_
      subst e10
      refine ⟨m', hm, i + 1, σ8, _, I10.unpinned (pins := []), ?_, ?_, w9⟩
      · exact T.keep _ _ _ st7 fun b hb o z => (I10.pin (b, o) (List.mem_append_right _ (List.mem_append_right _ (mem_pinsAt hb z)))).1
      · intro b hb
        obtain ⟨o, z, d⟩ := T.obj _ _ st7 b hb
        exact (I10.pin (b, o) (List.mem_append_right _ (List.mem_append_right _ (mem_pinsAt hb z)))).2.1
  exact codeAny_compStart_list (loop _ rfl) (T.self _ 0 _ _ _ (T.keep _ _ _ st3 fun b _ o z => hC4 b o z) (loop _ rfl))
theorem pe_lc (hx : X.xe = fun _ _ => False) (hc : X.calm = true) (hi : PI X tg iter wi) (hclos : closureFor scope X.env = pure cl) (F : LcFree X scope cl N own fr) (hk : scope.kind = .function) (hcell : ∀ y ∈ scope.names, y.2 ≠ .cell)
    (hnm : ∀ y ∈ scope.names, y.2 = .local → scope.names.lookup y.1 = some .local) (hg : ∀ s H pins fp, PG (cxLc X scope N cl s H pins fp) tg g) (he : ∀ s H pins fp, PE (cxLc X scope N cl s H pins fp) elt te)
    (hs : ∀ x, foldedSetIterable iter X.env x = pure x := by intro _; rfl) : PE X (.ListComp elt [⟨tg, iter, [], 0⟩] scope pos) (tLc wi g te own fr) := by
  intro pins s σ H Q I h
  rw [eval_ListComp]
  refine wpAny_comprehension_free (use := none) rfl hs hclos hk hnm ?_
  refine thn (hi pins s σ H _ I h) fun v s1 h1 => thn h1 fun itv s2 h2 => ?_
  refine lc_block (RR := fun acc C => compPost (model X.prog X.w) X.A X.xe none (EP X pins σ Q) acc C) hx hc F hk hcell hg he h2 ?_
  intro D C H' s' q hm _ _ _ _ _ back
  obtain ⟨m, nm⟩ := hm
  exact ⟨m, nm, fun h' sb => ⟨.ref D, H', back h' sb, rfl, q⟩⟩
/-- name = [..], the store ahead of the block's end -/
theorem ps_setLc {i : Nat} {y : Str} {py spos : Pos} (hN : X.N.Nodup) (hiN : X.N[i]? = some y) (hy : Loc X.env.scope y) (hsw : swapsWith (.ListComp elt [⟨tg, iter, [], 0⟩] scope pos) (some (.Name y py)) spos.line X.env = pure true)
    (hx : X.xe = fun _ _ => False) (hc : X.calm = true) (hi : PI X tg iter wi) (hclos : closureFor scope X.env = pure cl) (F : LcFree X scope cl N own fr) (hk : scope.kind = .function) (hcell : ∀ y ∈ scope.names, y.2 ≠ .cell)
    (hnm : ∀ y ∈ scope.names, y.2 = .local → scope.names.lookup y.1 = some .local) (hg : ∀ s H pins fp, PG (cxLc X scope N cl s H pins fp) tg g) (he : ∀ s H pins fp, PE (cxLc X scope N cl s H pins fp) elt te)
    (hs : ∀ x, foldedSetIterable iter X.env x = pure x := by intro _; rfl) (hf : X.fn y = true ∨ X.env.scope.names.lookup y = some .local := by first | exact .inl rfl | exact .inr rfl | assumption) :
    PS X (.Assign [.Name y py] (.ListComp elt [⟨tg, iter, [], 0⟩] scope pos) spos) (tAsg (tLc wi g te own fr) (gName i)) := by
  intro pins s σ H D I h
  rw [exec_Assign_Name_used _ _ _ _ hsw]
  refine wpAny_bind (wpAny_standAt (wpAny_bind ?_))
  show wpAny _ X.A (do let _ ← comprehension (.ListComp elt [⟨tg, iter, [], 0⟩] scope pos) scope X.env _ (newList []) false (eval iter X.env) (some (assign (.Name y py) X.env))) _ _ s
  refine wpAny_bind (wpAny_mono (wpAny_comprehension_free (use := some (assign (.Name y py) X.env)) (Q := fun _ s' => SP X pins D .next s') rfl hs hclos hk hnm ?_) (fun _ s' hq => wpAny_pure (wpAny_pure hq)) fun _ _ z => z)
  refine thn (hi pins s σ H _ I h) fun v s1 h1 => thn h1 fun itv s2 h2 => ?_
  refine lc_block (Q := fun v H' => D.nx (σ.set i (some v)) H') (RR := fun acc C => compPost (model X.prog X.w) X.A X.xe (some (assign (.Name y py) X.env)) (fun _ s' => SP X pins D .next s') acc C) hx hc F hk hcell hg he h2 ?_
  intro L C H' s' q hm n1 n2 n3 n4 n5 back
  have I5 : Inv X pins σ H' s' := back s'.heap (Heap.SameBut.refl _ _)
  show wpAny _ X.A (assign (.Name y py) X.env (.ref L)) _ _ _
  refine wpAny_assign_Name (store_ok2 I5 hN hiN hy (v := .ref L) rfl (fun s6 I6 hsb => ?_) hf)
  obtain ⟨m, nm⟩ := hm
  obtain ⟨a, sb, ha⟩ := hsb
  have na : a ≠ C := by
    rcases ha with z | z
    · rw [z]; exact Ne.symm n2
    · exact n3 y a z
  exact ⟨m, nm.sameBut sb (Ne.symm na), fun h' sb' => ⟨_, H', I6.turned (t' := s6.toks) (fun b o hb e => (sb'.2 b hb).trans e) n1 (Ne.symm (Ne.symm n2)) (.inr n5) n3 n4, q⟩⟩
end
/-! ### rules that name the written part: for a block, whose reading may not hang on its context -/
theorem pg_tupK {X : Cx} {K : PySem.W.Frag} {pos : Pos} {es : List Expr} {k : Nat} {t : TGs} {n : Nat} (hK : X.K = K) (hc : X.calm = true) (h : PGs X es t) (hn : (assignEach es X.env).length = n := by rfl) (hst : (assignEach es X.env).findIdx? (·.1) = none := by rfl) :
    PG X (.Tuple es k pos) (gTup K n t) := hK ▸ pg_tup hc h hn hst
theorem ix_listK {X : Cx} {K : PySem.W.Frag} (hK : X.K = K) : IxR X (rIxL K) := hK ▸ ix_list
theorem ix_tupK {X : Cx} {K : PySem.W.Frag} (hK : X.K = K) : IxR X (rIxT K) := hK ▸ ix_tup
end L2

namespace L2
open PySem PySem.Spec PyProof.Rows
/-! ### what lies at a value, as plain data, for == and != -/
def DtV (P : Program) (w : World) (H : Hp) (x : V) (d : PyData) : Prop := ∀ h, HOk P w H h → ∀ u, RelV x u → ∃ as, Reads h u d as
section
variable {P : Program} {w : World} {H H' : Hp}
theorem DtV.int (i : Int) : DtV P w H (.int i) (.int i) := fun h _ u r => by
  obtain ⟨t, rfl⟩ := r
  exact ⟨_, Reads.int i t⟩
theorem DtV.bl (b : Bool) : DtV P w H (.bl b) (.bool b) := fun h _ u r => by
  cases r
  exact ⟨_, Reads.bool b⟩
theorem DtV.non : DtV P w H .non .none := fun h _ u r => by
  cases r
  exact ⟨_, Reads.none⟩
theorem DtV.str (x : Str) : DtV P w H (.str x) (.str x) := fun h _ u r => by
  obtain ⟨t, rfl⟩ := r
  exact ⟨_, Reads.str x t⟩
theorem DtV.all {h : Heap} (ok : HOk P w H h) : ∀ {xs : List V} {ds : List PyData} {us : List Value}, Paired (DtV P w H) xs ds → Vals xs us → ∃ as, ReadsAll h us ds as
  | _, _, _, .nil, .nil => ⟨_, ReadsAll.nil⟩
  | _, _, _, .cons p q, .cons r t => by
    obtain ⟨as, a⟩ := p h ok _ r
    obtain ⟨bs, b⟩ := DtV.all ok q t
    exact ⟨_, ReadsAll.cons a b⟩
theorem DtV.lst {a : Addr} {xs : List V} {ds : List PyData} (e : H a = some (.lst xs)) (p : Paired (DtV P w H) xs ds) : DtV P w H (.ref a) (.list ds) := fun h ok u r => by
  cases r
  obtain ⟨_, its, n, v, g⟩ := (show ObjOk P w H h a (.lst xs) from ok a _ e)
  obtain ⟨as, z⟩ := DtV.all ok p v
  exact ⟨_, Reads.list g rfl rfl z⟩
theorem DtV.tup {a : Addr} {xs : List V} {ds : List PyData} (e : H a = some (.tup xs)) (p : Paired (DtV P w H) xs ds) : DtV P w H (.ref a) (.tuple ds) := fun h ok u r => by
  cases r
  obtain ⟨_, its, v, o, g, gc, n, gd⟩ := (show ObjOk P w H h a (.tup xs) from ok a _ e)
  obtain ⟨as, z⟩ := DtV.all ok p v
  exact ⟨_, Reads.tuple g gc gd z⟩
theorem paired_map {α β γ : Type} {F : β → γ → Prop} {f : α → β} {g : α → γ} : ∀ (l : List α), (∀ x ∈ l, F (f x) (g x)) → Paired F (l.map f) (l.map g)
  | [], _ => .nil
  | x :: r, h => .cons (h x List.mem_cons_self) (paired_map r fun y hy => h y (List.mem_cons_of_mem _ hy))
theorem DtV.ints {a : Addr} {xs : List Int} (e : H a = some (.lst (xs.map V.int))) : DtV P w H (.ref a) (.list (xs.map PyData.int)) := DtV.lst e (paired_map xs fun i _ => DtV.int i)
end
theorem shaped_flat {l : List PyData} (h1 : PyData.canLayAll0 l = true) (h2 : PyData.depthAll l ≤ 60) : SeqAt.shaped (.list l) = true := by
  show (PyData.canLay0 (.list l) && decide (PyData.depth (.list l) ≤ 64)) = true
  rw [Bool.and_eq_true]
  exact ⟨by simp only [PyData.canLay0]; exact h1, decide_eq_true (by simp only [PyData.depth]; omega)⟩
section
variable {X : Cx}
def rEqD (P : Program) (w : World) : R2 := fun x y H Q => ∃ da db, DtV P w H x da ∧ DtV P w H y db ∧ SeqAt.shaped da = true ∧ SeqAt.shaped db = true ∧ Q (.bl (PyData.eqv da db)) H
def rNeD (P : Program) (w : World) : R2 := fun x y H Q => ∃ da db, DtV P w H x da ∧ DtV P w H y db ∧ SeqAt.shaped da = true ∧ SeqAt.shaped db = true ∧ Q (.bl (!PyData.eqv da db)) H
theorem op_eqD (hu : X.A.units + 64 < cLine) : OpR X (compareOp .Eq) (rEqD X.prog X.w) := by
  intro pins s σ H x y v u Q I rx ry h
  obtain ⟨da, db, xa, xb, sa, sb, q⟩ := h
  obtain ⟨as, ra⟩ := xa _ I.hok _ rx
  obtain ⟨bs, rb⟩ := xb _ I.hok _ ry
  exact eq_dataH ra rb sa sb hu ⟨.bl _, H, I, rfl, q⟩
theorem op_neD (hu : X.A.units + 64 < cLine) : OpR X (compareOp .NotEq) (rNeD X.prog X.w) := by
  intro pins s σ H x y v u Q I rx ry h
  obtain ⟨da, db, xa, xb, sa, sb, q⟩ := h
  obtain ⟨as, ra⟩ := xa _ I.hok _ rx
  obtain ⟨bs, rb⟩ := xb _ I.hok _ ry
  exact ne_dataH ra rb sa sb hu ⟨.bl _, H, I, rfl, q⟩
/-! ### sorted of a list of ints -/
theorem vals_of_ints : ∀ {us : List Value} {ns : List Int}, IntsAre us ns → Vals (ns.map V.int) us
  | _, _, .nil => .nil
  | _, _, .cons _ _ r => .cons ⟨_, rfl⟩ (vals_of_ints r)
theorem call_sorted : CallR X (.builtin "sorted") (fun xs H Q => ∃ (p : Addr) (ns : List Int), xs = [.ref p] ∧ SqL X.K H p (ns.map V.int) ∧ ns.length < 64 ∧ ∀ (l : Addr) (ns' : List Int), H l = none → ns'.Perm ns → ns'.Pairwise (· ≤ ·) → Q (.ref l) (upd H l (.lst (ns'.map V.int)))) := by
  intro pins s σ H xs us Q I r h
  obtain ⟨p, ns, rfl, hq, h64, q⟩ := h
  obtain ⟨u, rfl, rx⟩ := vals1 r
  cases rx
  obtain ⟨its, r', pl, hz⟩ := I.list hq
  have hlen := r'.length
  rw [List.length_map] at hlen
  refine sorted_ints pl.isList (intsAre_of r') (by omega) fun out ns' a1 a2 a3 => ?_
  obtain ⟨e, he⟩ := sortedAll_at s.heap its out
  have v' := vals_of_ints a1
  have hz' : (ns'.map V.int).length ≤ sizeLine := by
    rw [List.length_map, a2.length_eq]
    exact Nat.le_trans (Nat.le_of_lt h64) (by decide)
  refine ⟨.ref (s.heap.objs.size + 1), _, I.laid (t' := s.toks) (fun b o z => sortedAll_old z) (Nat.le_succ _) (show ObjOk X.prog X.w _ _ _ (.lst (ns'.map V.int)) from ⟨hz', out.toList, e, v', ?_⟩), rfl, q _ ns' (I.hok.fresh (Nat.le_succ _)) a2 a3⟩
  rw [he]
end
/-! ### reversed(xs) in a for -/
def Itv (K : PySem.W.Frag) (a : Addr) (xs : List V) : It :=
  ⟨fun i H => i < xs.length ∧ SqL K H a xs, fun i H x H' => H' = H ∧ xs[xs.length - 1 - i]? = some x, fun i _ => i = xs.length⟩
theorem turn_rev {P : Program} {w : World} {K : PySem.W.Frag} {tg : Expr} (a it : Addr) (xs : List V) : Turn P w K tg (Itv K a xs) [it] it (fun i h => h.IsRevIter it a ((xs.length : Int) - 1 - (i : Nat))) where
  mem := by simp
  obj := fun i h st b hb => by
    have e : b = it := by simpa using hb
    subst e
    obtain ⟨o, e, c, d⟩ := st
    exact ⟨o, e, fun v z => by rw [d] at z; cases z⟩
  keep := fun i h h' st k => st.at fun o e => k it (by simp) o e
  item := by
    intro X hP hw hK hc i pins s σ H E I hf st hg
    subst hP hw hK
    obtain ⟨hi, hq⟩ := hg
    obtain ⟨its, rv, p, hz⟩ := I.list hq
    have hx : xs[xs.length - 1 - i]? = some xs[xs.length - 1 - i] := List.getElem?_eq_getElem (by omega)
    obtain ⟨u, hu, ru⟩ := rv.get hx
    obtain ⟨f0, f1, f2, f3, f4, f5⟩ := hf it (by simp)
    have e : ((xs.length : Int) - 1 - (i : Nat)) = ((xs.length - 1 - i : Nat) : Int) := by omega
    rw [e] at st
    refine wpAny_pyNext_rev_item st p.isList (x := u) (by simpa using hu) fun h' st' sb => ?_
    have I1 : Inv X pins σ H { s with heap := h' } := I.turned (t' := s.toks) (fun b o hb e => (sb.2 b hb).trans e) f0 f1 f3 f4 f5
    obtain ⟨o, e', c, d⟩ := id st'
    refine ⟨u, rfl, go_of (s := { s with heap := h' }) e' c d (by decide) ⟨_, H, I1, ru, ⟨rfl, hx⟩, ?_, fun b hb => (hf b hb).1⟩⟩
    rw [← e] at st'
    have e2 : ((xs.length : Int) - 1 - ((i + 1 : Nat) : Int)) = (xs.length : Int) - 1 - (i : Nat) - 1 := by omega
    rw [e2]
    exact st'
  done := by
    intro X hP hw hK hc i pins s σ H E I hf st hg
    subst hP hw hK
    obtain ⟨f0, f1, f2, f3, f4, f5⟩ := hf it (by simp)
    have e : ((xs.length : Int) - 1 - (i : Nat)) = -1 := by
      have z : i = xs.length := hg
      omega
    rw [e] at st
    exact wpAny_pyNext_rev_end (I.ok.hd hc) st fun h' eb => ⟨rfl, I.turned (t' := s.toks) (fun b o hb e => eb b o hb e) f0 f1 f3 f4 f5⟩
  self := fun _ _ _ _ _ st h => wpAny_pyIter_revIter st h
section
variable {X : Cx} {tg : Expr}
def iRev (K : PySem.W.Frag) (ta : TA) : TI := fun σ H R => ta σ H fun vs H1 => ∃ a xs, vs = [.ref a] ∧ SqL K H1 a xs ∧ R (Itv K a xs) H1
theorem pi_rev {a : Expr} {ta : TA} {p pos : Pos} (hg : Gl X "reversed") (hm : X.mg "reversed" = none) (ha : PA X [a] ta) (hs : starEach [a] X.env = [(false, eval a X.env)] := by rfl) :
    PI X tg (.Call (.Name "reversed" p) [a] [] pos) (iRev X.K ta) := by
  intro pins s σ H R I h
  refine Call_ (ld_blt I hg hm boot_reversed (PyProof.Rows.callWith_type1 (thn (ha pos pins s σ H _ I h) fun us s1 ⟨vs, H1, I1, r1, q1⟩ => ?_) hs rfl))
  obtain ⟨a', xs, e, hq, q⟩ := q1
  subst e
  cases r1 with
  | cons r rr =>
    cases rr
    cases r
    obtain ⟨its, rv, p, hz⟩ := I1.list hq
    have hl := rv.length
    refine call_reversed_list p.isList ?_
    have st : (s1.heap.push (revObj a' ((its.toArray.size : Int) - 1))).IsRevIter s1.heap.objs.size a' ((its.toArray.size : Int) - 1) := ⟨_, Heap.get?_push_size _ rfl, rfl, rfl⟩
    refine wpAny_pyIter_revIter (s := { s1 with heap := s1.heap.push (revObj a' ((its.toArray.size : Int) - 1)) }) st ?_
    refine ⟨s1.heap.objs.size, [s1.heap.objs.size], _, _, H1, rfl, I1.kept (t' := s1.toks) fun b o e => Heap.get?_push_of_some _ e, turn_rev a' _ xs, ?_, fun b hb => ?_, q⟩
    · have e : ((xs.length : Int) - 1 - ((0 : Nat) : Int)) = (its.toArray.size : Int) - 1 := by rw [List.size_toArray, hl]; omega
      show (s1.heap.push (revObj a' ((its.toArray.size : Int) - 1))).IsRevIter s1.heap.objs.size a' ((xs.length : Int) - 1 - ((0 : Nat) : Int))
      rw [e]
      exact st
    · have e : b = s1.heap.objs.size := by simpa using hb
      subst e
      exact I1.fpOk (Nat.le_refl _) (I1.hok.fresh (Nat.le_refl _))
end
/-! ### a comprehension, by a word over the turns -/
/-- behind a turn: the list grown by one, and the word -/
abbrev LcEnd (Pv : Nat → St → Hp → Prop) (D : Addr) (n i : Nat) (σ : St) (y : V) (H : Hp) : Prop := ∃ ys, H D = some (.lst ys) ∧ ys.length < sizeLine ∧ ∃ m', m' < n - i ∧ (m' = n - (i + 1) ∧ i + 1 ≤ n ∧ Pv (i + 1) σ (upd H D (.lst (ys ++ [y]))))
theorem LcEnd.mk {Pv : Nat → St → Hp → Prop} {D : Addr} {n i : Nat} {σ : St} {y : V} {H : Hp} {ys : List V} (h : H D = some (.lst ys)) (hz : ys.length < sizeLine) (hi : i < n) (p : Pv (i + 1) σ (upd H D (.lst (ys ++ [y])))) : LcEnd Pv D n i σ y H :=
  ⟨ys, h, hz, n - (i + 1), by omega, rfl, hi, p⟩
section
variable {g : TG} {te : TE} {own : Nat} {fr : List Nat} {σ : St} {H : Hp} {R : Hp → Prop} {D : Addr}
theorem lc_of {J : It} {n : Nat} (Pv : Nat → St → Hp → Prop) (h0 : Pv 0 (lcStart own fr σ) (upd H D (.lst []))) (hgo : ∀ i σ H, i < n → Pv i σ H → J.go i H)
    (hs : ∀ i x H2 σ H, i < n → Pv i σ H → J.yld i H x H2 → g x σ H2 fun σ3 H3 => te σ3 H3 fun y H4 => LcEnd Pv D n i σ3 y H4) (hd : ∀ σ H, Pv n σ H → J.stop n H ∧ R H) :
    ∃ W : Nat → Nat → St → Hp → Prop, (∃ m, W 0 m (lcStart own fr σ) (upd H D (.lst []))) ∧ ∀ i m σ' H', W i m σ' H' →
      (J.stop i H' ∧ R H') ∨ (J.go i H' ∧ ∀ x H2, J.yld i H' x H2 → g x σ' H2 fun σ3 H3 => te σ3 H3 fun y H4 => ∃ ys, H4 D = some (.lst ys) ∧ ys.length < sizeLine ∧ ∃ m', m' < m ∧ W (i + 1) m' σ3 (upd H4 D (.lst (ys ++ [y])))) := by
  refine ⟨fun i m σ H => m = n - i ∧ i ≤ n ∧ Pv i σ H, ⟨n, by simp, Nat.zero_le _, h0⟩, ?_⟩
  rintro i m σ' H' ⟨rfl, hi, p⟩
  by_cases hlt : i < n
  · exact .inr ⟨hgo i σ' H' hlt p, fun x H2 y => hs i x H2 σ' H' hlt p y⟩
  · have e : i = n := by omega
    subst e
    exact .inl (hd σ' H' p)
/-- over a list that stays -/
theorem lc_list {K : PySem.W.Frag} {a : Addr} {xs : List V} (Pv : Nat → St → Hp → Prop) (h0 : Pv 0 (lcStart own fr σ) (upd H D (.lst []))) (hl : ∀ i σ H, i ≤ xs.length → Pv i σ H → SqL K H a xs)
    (hs : ∀ i x σ H, xs[i]? = some x → Pv i σ H → g x σ H fun σ3 H3 => te σ3 H3 fun y H4 => LcEnd Pv D xs.length i σ3 y H4) (hd : ∀ σ H, Pv xs.length σ H → R H) :
    ∃ W : Nat → Nat → St → Hp → Prop, (∃ m, W 0 m (lcStart own fr σ) (upd H D (.lst []))) ∧ ∀ i m σ' H', W i m σ' H' →
      ((Itl K a).stop i H' ∧ R H') ∨ ((Itl K a).go i H' ∧ ∀ x H2, (Itl K a).yld i H' x H2 → g x σ' H2 fun σ3 H3 => te σ3 H3 fun y H4 => ∃ ys, H4 D = some (.lst ys) ∧ ys.length < sizeLine ∧ ∃ m', m' < m ∧ W (i + 1) m' σ3 (upd H4 D (.lst (ys ++ [y])))) := by
  refine lc_of (n := xs.length) Pv h0 (fun i σ H hi p => ⟨xs, xs[i], hl i σ H (Nat.le_of_lt hi) p, by simp [hi]⟩) (fun i x H2 σ H hi p y => ?_) (fun σ H p => ⟨⟨xs, hl _ σ H (Nat.le_refl _) p, Nat.le_refl _⟩, hd σ H p⟩)
  obtain ⟨e, y⟩ := y
  subst e
  exact hs i x σ _ (y xs (hl i σ _ (Nat.le_of_lt hi) p)) p
/-- over reversed(xs) -/
theorem lc_rev {K : PySem.W.Frag} {a : Addr} {xs : List V} (Pv : Nat → St → Hp → Prop) (h0 : Pv 0 (lcStart own fr σ) (upd H D (.lst []))) (hl : ∀ i σ H, i ≤ xs.length → Pv i σ H → SqL K H a xs)
    (hs : ∀ i x σ H, i < xs.length → xs[xs.length - 1 - i]? = some x → Pv i σ H → g x σ H fun σ3 H3 => te σ3 H3 fun y H4 => LcEnd Pv D xs.length i σ3 y H4) (hd : ∀ σ H, Pv xs.length σ H → R H) :
    ∃ W : Nat → Nat → St → Hp → Prop, (∃ m, W 0 m (lcStart own fr σ) (upd H D (.lst []))) ∧ ∀ i m σ' H', W i m σ' H' →
      ((Itv K a xs).stop i H' ∧ R H') ∨ ((Itv K a xs).go i H' ∧ ∀ x H2, (Itv K a xs).yld i H' x H2 → g x σ' H2 fun σ3 H3 => te σ3 H3 fun y H4 => ∃ ys, H4 D = some (.lst ys) ∧ ys.length < sizeLine ∧ ∃ m', m' < m ∧ W (i + 1) m' σ3 (upd H4 D (.lst (ys ++ [y])))) := by
  refine lc_of (n := xs.length) Pv h0 (fun i σ H hi p => ⟨hi, hl i σ H (Nat.le_of_lt hi) p⟩) (fun i x H2 σ H hi p y => ?_) (fun σ H p => ⟨rfl, hd σ H p⟩)
  obtain ⟨e, y⟩ := y
  subst e
  exact hs i x σ _ hi y p
/-- over a range -/
theorem lc_range {lo : Int} {n : Nat} (Pv : Nat → St → Hp → Prop) (h0 : Pv 0 (lcStart own fr σ) (upd H D (.lst [])))
    (hs : ∀ i σ H, i < n → Pv i σ H → g (.int (lo + i)) σ H fun σ3 H3 => te σ3 H3 fun y H4 => LcEnd Pv D n i σ3 y H4) (hd : ∀ σ H, Pv n σ H → R H) :
    ∃ W : Nat → Nat → St → Hp → Prop, (∃ m, W 0 m (lcStart own fr σ) (upd H D (.lst []))) ∧ ∀ i m σ' H', W i m σ' H' →
      ((Itr lo n).stop i H' ∧ R H') ∨ ((Itr lo n).go i H' ∧ ∀ x H2, (Itr lo n).yld i H' x H2 → g x σ' H2 fun σ3 H3 => te σ3 H3 fun y H4 => ∃ ys, H4 D = some (.lst ys) ∧ ys.length < sizeLine ∧ ∃ m', m' < m ∧ W (i + 1) m' σ3 (upd H4 D (.lst (ys ++ [y])))) := by
  refine lc_of (n := n) Pv h0 (fun i σ H hi p => hi) (fun i x H2 σ H hi p y => ?_) (fun σ H p => ⟨Nat.le_refl _, hd σ H p⟩)
  obtain ⟨e, y⟩ := y
  subst e y
  exact hs i σ _ hi p
end
end L2

namespace HT
open PySem PyProof.Rows
theorem ints_at : ∀ {vs : List Value} {ns : List Int} {i : Nat}, IntsAre vs ns → i < vs.length → ∃ t, vs[i]? = some (.int (ns.getD i 0) t) ∧ ns.drop i = ns.getD i 0 :: ns.drop (i + 1)
  | _, _, 0, .cons n t r, _ => ⟨t, rfl, rfl⟩
  | _, _, i + 1, .cons n t r, h => by
    obtain ⟨t', a, b⟩ := ints_at (i := i) r (by simpa using h)
    exact ⟨t', by simpa using a, by simpa using b⟩
section
open PySem.SeqAt
open PySem.AutoSeq1 (wpAny_loadPart')
open PySem.MeetsSeq PySem.MeetsSeq2 PySem.MeetsSeq3
theorem lt_loop (l b : Addr) (items items2 : Array Value) (n n2 : Nat) (dd dd2 : Option Addr) (sl sl2 : Array (Option Value)) (ns ms : List Int) (ia : IntsAre items.toList ns) (ib : IntsAre items2.toList ms) (k : Nat) :
    ∀ i : Nat, items.size - i = k → i ≤ items.size → i ≤ items2.size → Meets (Builtin.«list.__eq__.loop» ⟨[.ref l, .ref b, rawInt i, rawInt 0], []⟩)
      (fun _ R s => s.heap.get? l = some { cls := .type "list", dict := dd, data := .seq items n, slots := sl } ∧ s.heap.get? b = some { cls := .type "list", dict := dd2, data := .seq items2 n2, slots := sl2 } ∧ R (.ok (.ret (.bool (lexLt (ns.drop i) (ms.drop i))))) s) := by
  have z1 : items.size = ns.length := by rw [← ia.length]; simp
  have z2 : items2.size = ms.length := by rw [← ib.length]; simp
  induction k with
  | zero =>
    intro i hk b1 b2 prog w A R s h
    obtain ⟨hp, g, d, tk, os⟩ := s
    obtain ⟨hl, hb, h⟩ := h
    wp_walk using wpAny_loadPart' hl, wpAny_loadPart' hb
    have q1 : items[((i : Nat) : Int).toNat]? = none := by simp; omega
    have e1 : ns.drop i = [] := List.drop_of_length_le (by omega)
    have e2 : lexLt [] (ms.drop i) = decide (items.size < items2.size) := by
      cases hm : ms.drop i with
      | nil =>
        have zz : ms.length ≤ i := by
          have := congrArg List.length hm
          simp at this
          omega
        rw [lexLt_nil_nil]
        exact (decide_eq_false (by omega)).symm
      | cons x r =>
        have zz : i < ms.length := by
          have := congrArg List.length hm
          simp at this
          omega
        rw [lexLt_nil_cons]
        exact (decide_eq_true (by omega)).symm
    rw [e1, e2] at h
    rw [q1]
    wp_walk using wpAny_loadPart' hl, wpAny_loadPart' hb
    exact h
  | succ k ih =>
    intro i hk b1 b2 prog w A R s h
    obtain ⟨hp, g, d, tk, os⟩ := s
    obtain ⟨hl, hb, h⟩ := h
    wp_walk using wpAny_loadPart' hl, wpAny_loadPart' hb
    have lt1 : i < items.size := by omega
    obtain ⟨t, g1, d1⟩ := ints_at ia (i := i) (by simpa using lt1)
    have q1 : items[((i : Nat) : Int).toNat]? = some (.int (ns.getD i 0) t) := by simpa using g1
    rw [d1] at h
    by_cases lt2 : i < items2.size
    · obtain ⟨u, g2, d2⟩ := ints_at ib (i := i) (by simpa using lt2)
      have q2 : items2[((i : Nat) : Int).toNat]? = some (.int (ms.getD i 0) u) := by simpa using g2
      rw [d2, lexLt_cons] at h
      have hc : ((i : Int) + 1) = ((i + 1 : Nat) : Int) := by omega
      rw [q1, q2]
      obtain ⟨e, he, hiff⟩ := eqAt_int A.in1 ⟨hp, g, d, tk, os⟩ (ns.getD i 0) t (ms.getD i 0) u
      refine wpAny_bind (he prog w _ _ ?_)
      cases e with
      | true =>
        rw [if_pos (hiff.mp rfl)] at h
        wp_walk
        rw [hc]
        exact ⟨plainId_quiet plain_eq_loop _, codeAny_builtin entry_eq_loop (by
          rw [Around.under_plainId plain_eq_loop _]
          exact ih (i + 1) (by omega) lt1 lt2 prog w A R _ ⟨hl, hb, h⟩)⟩
      | false =>
        rw [if_neg (fun q => absurd (hiff.mpr q) Bool.false_ne_true)] at h
        have hri := rcLt_int A.in1 ⟨hp, g, d, tk, os⟩ (ns.getD i 0) t (ms.getD i 0) u prog w
        wp_walk using wpAny_loadPart' hl, wpAny_loadPart' hb
        rw [q1, q2]
        wp_walk using hri
        exact h
    · have q2 : items2[((i : Nat) : Int).toNat]? = none := by simp; omega
      have e2 : ms.drop i = [] := List.drop_of_length_le (by omega)
      rw [e2, lexLt_cons_nil] at h
      rw [q1, q2]
      wp_walk using wpAny_loadPart' hl, wpAny_loadPart' hb
      have hv : (decide (items.size < items2.size)) = false := decide_eq_false (by omega)
      show R (.ok (.ret (.bool (decide (items.size < items2.size))))) _
      rw [hv]
      exact h
theorem list_lt_ints (l b : Addr) (items items2 : Array Value) (n n2 : Nat) (dd dd2 : Option Addr) (sl sl2 : Array (Option Value)) (ns ms : List Int) (ia : IntsAre items.toList ns) (ib : IntsAre items2.toList ms) :
    Meets (Builtin.«list.__lt__» ⟨[.ref l, .ref b], []⟩)
      (fun _ R s => s.heap.get? l = some { cls := .type "list", dict := dd, data := .seq items n, slots := sl } ∧ s.heap.get? b = some { cls := .type "list", dict := dd2, data := .seq items2 n2, slots := sl2 } ∧ R (.ok (.ret (.bool (lexLt ns ms)))) s) := by
  intro prog w A R s h
  obtain ⟨hp, g, d, tk, os⟩ := s
  obtain ⟨hl, hb, h⟩ := h
  have f3 := AutoSeq1.sub_list_list
  wp_walk using wpAny_loadPart' hl, wpAny_loadPart' hb
  exact ⟨plainId_quiet plain_eq_loop _, codeAny_builtin entry_eq_loop (by
    rw [Around.under_plainId plain_eq_loop _]
    exact lt_loop l b items items2 n n2 dd dd2 sl sl2 ns ms ia ib _ 0 rfl (Nat.zero_le _) (Nat.zero_le _) prog w A R _ ⟨hl, hb, by simpa using h⟩)⟩
end
section
variable {prog : Program} {w : World} {A : Around} {E : Value → Shared → Prop} {s : Shared}
theorem key_lt_lists {l b : Addr} {items items2 : Array Value} {n n2 : Nat} {ns ms : List Int} {Q : Bool → Shared → Prop} (hl : s.heap.get? l = some { cls := .type "list", data := .seq items n }) (hb : s.heap.get? b = some { cls := .type "list", data := .seq items2 n2 })
    (ia : IntsAre items.toList ns) (ib : IntsAre items2.toList ms) (hu : A.units < cLine) (h : Q (lexLt ns ms) s) : wpAny (model prog w) A (keyLt' oneType' (.ref l) (.ref b)) Q E s := by
  rw [keyLt'_oneType, oneLt'_eq]
  simp only [if_true]
  refine wpAny_bind (wpAny_cRoomFor hu ?_)
  refine wpAny_bind (wpAny_callSpecialIfBound?_slot ⟨_, hl, rfl⟩ F.slot_list_lt (call_meets F.slot_list_lt ⟨_, hl, rfl⟩ F.entry_list_lt (F.args_list_lt_2 _ _) (list_lt_ints l b items items2 n n2 none none #[] #[] ns ms ia ib) ⟨hl, hb, ?_⟩))
  exact wpAny_truthy_bool h
end
end HT
namespace L2
open PySem PySem.Spec PyProof.Rows
theorem ObjOk.there {P : Program} {w : World} {H : Hp} {h : Heap} {a : Addr} {o : HO} (x : ObjOk P w H h a o) : ∃ ob, h.get? a = some ob := by
  cases o with
  | lst xs => obtain ⟨_, _, _, _, e⟩ := x; exact ⟨_, e⟩
  | tup xs => obtain ⟨_, _, _, _, e, _⟩ := x; exact ⟨_, e⟩
  | dK kvs => obtain ⟨_, _, _, _, o, _, _, e, _⟩ := x; exact ⟨_, e⟩
  | dT kvs => obtain ⟨_, _, _, _, o, _, _, e, _⟩ := x; exact ⟨_, e⟩
  | set S n => obtain ⟨o, _, _, _, e, _⟩ := x; exact ⟨_, e⟩
  | ins C dx fs => obtain ⟨_, _, _, e, _⟩ := x; exact ⟨_, e⟩
  | own y => exact x
  | xd fs => obtain ⟨_, ⟨_, _, _, e, _⟩, _⟩ := x; exact ⟨_, e⟩
  | rng lo hi => obtain ⟨_, _, _, e⟩ := x; exact ⟨_, e⟩
  | frz ob u => obtain ⟨e, _⟩ := x; exact ⟨_, e⟩
  | tbl ps => exact ⟨_, (show h.get? a = some _ from x)⟩
  | met f y => exact ⟨_, (show h.get? a = some _ from x)⟩
  | ext φ => obtain ⟨_, e, _⟩ := x; exact e
/-! ### sorted of a list of lists of ints, by the way its comparisons go -/
def kasEval {α : Type} (lt : Nat → Nat → Bool) : PySem.W.KasT α → α
  | .ret a => a
  | .ask i j k => kasEval lt (k (lt i j))
def kasOk {α : Type} (lt : Nat → Nat → Bool) (n : Nat) : PySem.W.KasT α → Bool
  | .ret _ => true
  | .ask i j k => decide (i < n) && decide (j < n) && kasOk lt n (k (lt i j))
theorem kas_by {α : Type} {cmp : Nat → Nat → (Bool → Shared → Prop) → Shared → Prop} {lt : Nat → Nat → Bool} {n : Nat} {s : Shared} (hc : ∀ i j C, i < n → j < n → C (lt i j) s → cmp i j C s) {Q : α → Shared → Prop} :
    ∀ t : PySem.W.KasT α, kasOk lt n t = true → Q (kasEval lt t) s → t.kasWp cmp Q s
  | .ret _, _, h => h
  | .ask i j k, o, h => by
    have o' : (decide (i < n) && decide (j < n) && kasOk lt n (k (lt i j))) = true := o
    rw [Bool.and_eq_true, Bool.and_eq_true, decide_eq_true_eq, decide_eq_true_eq] at o'
    exact hc i j _ o'.1.1 o'.1.2 (kas_by hc (k (lt i j)) o'.2 h)
def ltRows (rows : List (List Int)) (i j : Nat) : Bool := HT.lexLt (rows.getD i []) (rows.getD j [])
section
variable {X : Cx}
theorem Inv.quietly {pins : List (Addr × Obj)} {σ : St} {H H' : Hp} {s : Shared} {h' : Heap} {t' : Nat} (I : Inv X pins σ H s) {m : Str → Option Value} (hm : s.heap.Ns X.env.locals m) (hm' : h'.Ns X.env.locals m) (kp : ∀ b o, b ≠ X.env.locals → s.heap.get? b = some o → h'.get? b = some o)
    (hn : ∀ b o, s.heap.get? b = some o → H b = none → H' b = none) (sm : ∀ b o, H b = some o → H' b = some o) (hok : HOk X.prog X.w H' h') : Inv X pins σ H' { s with heap := h', toks := t' } := by
  refine I.step (ch := []) (g' := s.gens) (d' := s.drawn) (t' := t') (fun b hb => by simp at hb) ?_ ?_ ?_ ?_ ?_ ?_ ?_ ?_ hok I.bare
  · intro b o h1 _ _ h2 _
    exact kp b o h1 h2
  · intro b o h1 _ _ h2 _
    exact ⟨o.slots, kp b o h1 h2⟩
  · intro b o _ h1 h2
    exact hn b o h1 h2
  · intro b o _ h1
    by_cases e : b = X.env.locals
    · subst e
      obtain ⟨o', _, _, z, _⟩ := hm'
      exact ⟨o', z⟩
    · exact ⟨o, kp b o e h1⟩
  · intro b xs hb
    exact sm b _ hb
  · intro b o u hb
    exact sm b _ hb
  · intro b ps hb
    exact ⟨#[], by rw [sm b _ hb]; simp⟩
  · intro m2 h2
    rw [h2.eq_nsMap, ← hm.eq_nsMap]
    exact hm'
theorem call_sortedL (hu : X.A.units + 64 < cLine) : CallR X (.builtin "sorted") (fun xs H Q => ∃ (p : Addr) (rs : List Addr) (rows : List (List Int)) (ix : List Nat), xs = [.ref p] ∧ SqL X.K H p (rs.map V.ref) ∧ rs.length = rows.length ∧
    (∀ (i : Nat) r row, rs[i]? = some r → rows[i]? = some row → H r = some (.lst (row.map V.int))) ∧ 2 ≤ rs.length ∧ rs.length < 64 ∧ kasOk (ltRows rows) rs.length (PySem.W.kas_sort rs.length) = true ∧
    (kasEval (ltRows rows) (PySem.W.kas_sort rs.length)).toList = ix ∧ ix.length = rs.length ∧ (∀ i ∈ ix, i < rs.length) ∧ ∀ l : Addr, H l = none → Q (.ref l) (upd H l (.lst (ix.map fun i => V.ref (rs.getD i 0))))) := by
  intro pins s σ H xs us Q I r h
  obtain ⟨p, rs, rows, ix, rfl, hq, hlen, hrows, h2, h64, hok, hix, hixl, hixn, q⟩ := h
  obtain ⟨u, rfl, rx⟩ := vals1 r
  cases rx
  obtain ⟨its, r', pl, hz⟩ := I.list hq
  have hl := r'.length
  rw [List.length_map] at hl
  have hits : its = rs.map Value.ref := by
    clear hq pl hz hl
    have go : ∀ (rs : List Addr) (us : List Value), Vals (rs.map V.ref) us → us = rs.map Value.ref := by
      intro rs
      induction rs with
      | nil => intro us v; cases v; rfl
      | cons a rs ih =>
        intro us v
        cases v with
        | cons e t => cases e; rw [ih _ t]; rfl
    exact go rs its r'
  subst hits
  obtain ⟨m, F⟩ := I.fr
  have N := news_all (g := X.base) (h := s.heap) (L := X.env.locals)
  -- a tracked object lies in the ledger
  have inN : ∀ b o ob, H b = some o → s.heap.get? b = some ob → (b, ob) ∈ allNews X.base s.heap X.env.locals := fun b o ob hb ho => by
    refine mem_allNews (ne_of_none hb I.free) ?_ ho
    cases e : X.base.get? b with
    | none => rfl
    | some z => have := (I.bs b z e).2; rw [hb] at this; cases this
  have rowAt : ∀ i, i < rs.length → ∃ (ro : List Value) (n : Nat), s.heap.get? (rs.getD i 0) = some { cls := .type "list", data := .seq ro.toArray n } ∧ IntsAre ro (rows.getD i []) ∧ H (rs.getD i 0) = some (.lst ((rows.getD i []).map V.int)) := fun i hi => by
    have e1 : rs[i]? = some rs[i] := List.getElem?_eq_getElem hi
    have e2 : rows[i]? = some rows[i] := List.getElem?_eq_getElem (by omega)
    have hr := hrows i _ _ e1 e2
    obtain ⟨_, ro, n, v, g⟩ := (show ObjOk X.prog X.w H s.heap rs[i] (.lst (rows[i].map V.int)) from I.hok _ _ hr)
    rw [List.getD_eq_getElem?_getD, List.getD_eq_getElem?_getD, e1, e2]
    exact ⟨ro, n, g, intsAre_of v, hr⟩
  refine PySem.W.kas_sorted (T := .type "list") F N pl.isList (by rw [List.length_map]; exact h2) (by rw [List.length_map]; exact h64) (fun h' F' N' v hv => ?_) (by decide +kernel) (fun D e1 h' F' N' hD => ?_)
  · obtain ⟨a, ha, rfl⟩ := List.mem_map.mp hv
    obtain ⟨i, hi⟩ := List.mem_iff_getElem?.mp ha
    have hi' := (List.getElem?_eq_some_iff.mp hi).1
    obtain ⟨ro, n, g, _, hh⟩ := rowAt i hi'
    have ea : rs.getD i 0 = a := by rw [List.getD_eq_getElem?_getD, hi]; rfl
    rw [ea] at g hh
    exact (PySem.W.Looks.ld (N' _ (inN a _ _ hh g)).1).andThen .now
  · rw [List.length_map]
    refine kas_by (lt := ltRows rows) (n := rs.length) (fun i j C hi hj hC => ?_) _ hok ?_
    · obtain ⟨ro, n, g, ia, hh⟩ := rowAt i hi
      obtain ⟨ro2, n2, g2, ib, hh2⟩ := rowAt j hj
      have a1 : (rs.map Value.ref).getD i Value.none = .ref (rs.getD i 0) := by
        rw [List.getD_eq_getElem?_getD, List.getD_eq_getElem?_getD, List.getElem?_map, List.getElem?_eq_getElem hi]
        rfl
      have a2 : (rs.map Value.ref).getD j Value.none = .ref (rs.getD j 0) := by
        rw [List.getD_eq_getElem?_getD, List.getD_eq_getElem?_getD, List.getElem?_map, List.getElem?_eq_getElem hj]
        rfl
      unfold PySem.W.kas_ask
      rw [a1, a2]
      have k1 := (N' _ (List.mem_cons_of_mem _ (inN _ _ _ hh g))).1
      have k2 := (N' _ (List.mem_cons_of_mem _ (inN _ _ _ hh2 g2))).1
      exact HT.key_lt_lists k1 k2 (by simpa using ia) (by simpa using ib) (by show X.A.units + 1 + 1 < cLine; omega) hC
    · have hDn : s.heap.get? D = none ∧ D ≠ X.env.locals := by
        have z := N' (D, _) List.mem_cons_self
        refine ⟨?_, z.2.1⟩
        cases e : s.heap.get? D with
        | none => rfl
        | some ob => exact absurd (hD _ (mem_allNews z.2.1 z.2.2 e)) (Nat.lt_irrefl _)
      have HDn : H D = none := by
        cases e : H D with
        | none => rfl
        | some o =>
          obtain ⟨ob, eo⟩ := (I.hok D o e).there
          rw [hDn.1] at eo
          cases eo
      refine PySem.W.KasFin.intro F' N' (.head fun p hp => ?_) (fun h2 c F2 N2 => ?_)
      · intro z
        have zz := hD p hp
        rw [z] at zz
        exact Nat.lt_irrefl _ zz
      · have kp : ∀ b o, b ≠ X.env.locals → s.heap.get? b = some o → h2.get? b = some o := fun b o hb ho => by
          cases e : X.base.get? b with
          | some z =>
            have zz := (I.bs b z e).1
            rw [ho] at zz
            cases zz
            exact F2.keep b _ e
          | none => exact (N2 (b, o) (List.mem_cons_of_mem _ (mem_allNews hb e ho))).1
        have hv : Vals (ix.map fun i => V.ref (rs.getD i 0)) ((kasEval (ltRows rows) (PySem.W.kas_sort rs.length)).toList.map fun i => (rs.map Value.ref).getD i Value.none) := by
          rw [hix]
          refine paired_map (F := RelV) ix fun i hi => ?_
          have hi' := hixn i hi
          show (rs.map Value.ref).getD i Value.none = Value.ref (rs.getD i 0)
          rw [List.getD_eq_getElem?_getD, List.getD_eq_getElem?_getD, List.getElem?_map, List.getElem?_eq_getElem hi']
          rfl
        have hok2 : HOk X.prog X.w (upd H D (.lst (ix.map fun i => V.ref (rs.getD i 0)))) h2 := by
          intro b o hb
          by_cases e : b = D
          · subst e
            rw [upd_same] at hb
            cases hb
            exact ⟨by rw [List.length_map, hixl]; exact Nat.le_trans (Nat.le_of_lt h64) (by decide), _, c, hv, (N2 (b, _) List.mem_cons_self).1⟩
          · rw [upd_ne e] at hb
            refine (I.hok b o hb).stay (fun b' o' hb' e' => ?_) (fun b' hb' => ?_) (fun b' xs' hb' => ?_)
            · rcases hb' with z | z
              · rw [z] at e' ⊢
                exact kp b o' (ne_of_none hb I.free) e'
              · exact kp b' o' (ne_of_none z I.free) e'
            · rw [upd_ne (ne_of_none hb' HDn)]; exact hb'
            · rw [upd_ne (ne_of_none hb' HDn)]; exact hb'
        refine ⟨.ref D, _, I.quietly (t' := s.toks) F.ns F2.ns kp (fun b o h1 h3 => ?_) (fun b o h1 => ?_) hok2, rfl, q D HDn⟩
        · rw [upd_ne]
          · exact h3
          · intro z
            rw [z, hDn.1] at h1
            cases h1
        · rw [upd_ne (ne_of_none h1 HDn)]
          exact h1
end
/-! ### range(a, b, -1), b below a or not -/
def Itd (hi : Int) (n : Nat) : It := ⟨fun i _ => i < n, fun i H x H' => H' = H ∧ x = .int (hi - i), fun i _ => n ≤ i⟩
theorem turn_down {P : Program} {w : World} {K : PySem.W.Frag} {tg : Expr} (it : Addr) (hi : Int) (n : Nat) : Turn P w K tg (Itd hi n) [it] it (fun i h => IsRangeIter h it (hi + (i : Nat) * (-1)) ((n : Int) - (i : Nat)) (-1)) where
  mem := by simp
  obj := fun i h st b hb => by
    have e : b = it := by simpa using hb
    subst e
    exact ⟨_, st, fun v z => by
      have z' : Data.fields _ = Data.cell v := z
      cases z'⟩
  keep := fun i h h' st k => k it (by simp) _ st
  item := by
    intro X hP hw hK hc i pins s σ H E I hf st hg
    subst hP hw hK
    obtain ⟨f0, f1, f2, f3, f4, f5⟩ := hf it (by simp)
    have W := Walks.range (prog := X.prog) (w := X.w) (I.ok.hd hc) it hi (-1) n
    refine W.item i s _ _ hg st fun v h' tk hv st' kk => ?_
    obtain ⟨t, rfl⟩ := hv
    have I1 : Inv X pins σ H { s with heap := h', toks := tk } := I.turned (fun b o hb e => kk b o (by simpa using hb) e) f0 f1 f3 f4 f5
    refine ⟨_, rfl, go_of (s := { s with heap := h', toks := tk }) (n := "range_iterator") st' rfl rfl (by decide) ⟨.int (hi - i), H, I1, ⟨t, ?_⟩, ⟨rfl, rfl⟩, st', fun b hb => (hf b hb).1⟩⟩
    have e : hi + (i : Int) * (-1) = hi - i := by omega
    rw [e]
  done := by
    intro X hP hw hK hc i pins s σ H E I hf st hg
    subst hP hw hK
    obtain ⟨f0, f1, f2, f3, f4, f5⟩ := hf it (by simp)
    exact wpAny_pyNext_range_end (I.ok.hd hc) st (by have : n ≤ i := hg; omega) fun h' eb => ⟨rfl, I.turned (t' := s.toks) (fun b o hb e => eb b o hb e) f0 f1 f3 f4 f5⟩
  self := fun _ _ _ _ _ st h => wpAny_pyIter_rangeiter st h
section
variable {X : Cx} {tg : Expr}
def iRngD (ta : TA) : TI := fun σ H R => ta σ H fun vs H1 => ∃ i j : Int, vs = [.int i, .int j, .int (-1)] ∧ (-100000 ≤ i ∧ i < 100000 ∧ -100000 ≤ j ∧ j < 100000) ∧ R (Itd i (i - j).toNat) H1
theorem small_down {a b : Int} (h1 : -100000 ≤ a) (h2 : a < 100000) (h3 : -100000 ≤ b) (h4 : b < 100000) : Builtin.Range.small a b (-1) = true ∧ Builtin.Range.rangeSize a b (-1) = (((a - b).toNat : Nat) : Int) := by
  have e : Builtin.Range.rangeSize a b (-1) = (((a - b).toNat : Nat) : Int) := by
    unfold Builtin.Range.rangeSize
    rw [if_neg (by decide)]
    split
    · rw [show (-(-1 : Int)) = 1 by decide, Int.ediv_one]
      omega
    · omega
  refine ⟨?_, e⟩
  unfold Builtin.Range.small
  rw [e]
  have hz : (((a - b).toNat : Nat) : Int) ≤ 200000 := by omega
  have hz0 : 0 ≤ (((a - b).toNat : Nat) : Int) := by omega
  generalize (((a - b).toNat : Nat) : Int) = z at hz hz0
  simp only [Builtin.Range.rangeFitsLong, Bool.and_eq_true, Bool.or_eq_true, decide_eq_true_eq, beq_iff_eq]
  rw [if_neg (by decide), Bool.and_eq_true, decide_eq_true_eq, decide_eq_true_eq]
  omega
theorem pi_rangeD {a b c : Expr} {ta : TA} {p pos : Pos} (hg : Gl X "range") (hm : X.mg "range" = none) (ha : PA X [a, b, c] ta) (hs : starEach [a, b, c] X.env = [(false, eval a X.env), (false, eval b X.env), (false, eval c X.env)] := by rfl)
    (hs2 : starEach [b, c] X.env = [(false, eval b X.env), (false, eval c X.env)] := by rfl) : PI X tg (.Call (.Name "range" p) [a, b, c] [] pos) (iRngD ta) := by
  intro pins s σ H R I h
  refine Call_ (ld_blt I hg hm boot_range (PyProof.Rows.callWith_type1 (thn (ha pos pins s σ H _ I h) fun us s1 ⟨vs, H1, I1, r1, q1⟩ => ?_) (by rw [hs, hs2]) (by rw [hs2]; rfl)))
  obtain ⟨i, j, e, ⟨q1, q2, q3, q4⟩, q⟩ := q1
  subst e
  cases r1 with
  | cons r rr =>
    cases rr with
    | cons r' rr =>
      cases rr with
      | cons r2 rr =>
        cases rr
        obtain ⟨t, rfl⟩ := r
        obtain ⟨t', rfl⟩ := r'
        obtain ⟨t2, rfl⟩ := r2
        obtain ⟨sm, sz⟩ := small_down q1 q2 q3 q4
        refine call_range_3 (by decide) ?_ (Or.inl (PyProof.noPylong_small (by omega)))
        refine wpAny_pyIter_range (IsRange.new ..) sm ?_
        have I2 : Inv X pins σ H1 { s1 with heap := s1.heap.push { cls := .type "range", data := .fields #[.int i t, .int j t', .int (-1) t2] }, toks := s1.toks } := I1.kept fun b o e => Heap.get?_push_of_some _ e
        refine ⟨_, [_], _, _, H1, rfl, I2.kept (t' := s1.toks) fun b o e => Heap.get?_push_of_some _ e, turn_down _ i (i - j).toNat, ?_, fun b hb => ?_, q⟩
        · have e1 : i + ((0 : Nat) : Int) * (-1) = i := by omega
          show IsRangeIter _ _ (i + ((0 : Nat) : Int) * (-1)) ((((i - j).toNat : Nat) : Int) - ((0 : Nat) : Int)) (-1)
          rw [e1, show ((((i - j).toNat : Nat) : Int) - ((0 : Nat) : Int)) = Builtin.Range.rangeSize i j (-1) by rw [sz]; omega]
          exact Heap.get?_push_size _ rfl
        · have e := List.mem_singleton.mp hb
          subst e
          exact I2.fpOk (Nat.le_refl _) (I2.hok.fresh (Nat.le_refl _))
end
theorem for_down {hi : Int} {n : Nat} {g : TG} {tb : TS} {D : Ends} {σ : St} {H : Hp} (Pv : Nat → St → Hp → Prop) (h0 : Pv 0 σ H)
    (hs : ∀ i σ H, i < n → Pv i σ H → g (.int (hi - i)) σ H fun σ2 H2 => tb { D with nx := Pv (i + 1), ct := Pv (i + 1), bk := D.nx } σ2 H2) (hd : ∀ σ H, Pv n σ H → D.nx σ H) :
    ∃ W : Nat → Nat → St → Hp → Prop, (∃ m, W 0 m σ H) ∧ ∀ i m σ H, W i m σ H →
      ((Itd hi n).stop i H ∧ D.nx σ H) ∨ ((Itd hi n).go i H ∧ ∃ N : St → Hp → Prop, (∀ σ' H', N σ' H' → ∃ m', m' < m ∧ W (i + 1) m' σ' H') ∧ ∀ x H', (Itd hi n).yld i H x H' → g x σ H' fun σ2 H2 => tb { D with nx := N, ct := N, bk := D.nx } σ2 H2) := by
  refine ⟨fun i m σ H => m = n - i ∧ i ≤ n ∧ Pv i σ H, ⟨n, by simp, Nat.zero_le _, h0⟩, ?_⟩
  rintro i m σ H ⟨rfl, hi', p⟩
  by_cases hlt : i < n
  · refine .inr ⟨hlt, Pv (i + 1), fun σ' H' p' => ⟨n - (i + 1), by omega, rfl, hlt, p'⟩, fun x H' y => ?_⟩
    obtain ⟨e, y⟩ := y
    subst e y
    exact hs i σ _ hlt p
  · have e : i = n := by omega
    subst e
    exact .inl ⟨Nat.le_refl _, hd σ H p⟩
/-! ### x is False, x is True, of bools -/
theorem op_isB {X : Cx} : OpR X (compareOp .Is) (fun x y H Q => ∃ b c, x = .bl b ∧ y = .bl c ∧ Q (.bl (b == c)) H) := by
  intro pins s σ H x y v u Q I rx ry h
  obtain ⟨b, c, rfl, rfl, q⟩ := h
  cases rx
  cases ry
  exact is_bool (fin_bl I q rfl)
end L2

namespace PN
open PySem L2
/-! ### tests -/
theorem iteD {c A B : Prop} [Decidable c] (hc : c) (h : A) : if decide c = true then A else B := by rw [if_pos (decide_eq_true hc)]; exact h
theorem iteDn {c A B : Prop} [Decidable c] (hc : ¬ c) (h : B) : if decide c = true then A else B := by rw [if_neg (by simpa using hc)]; exact h
theorem iteN {c A B : Prop} [Decidable c] (hc : ¬ c) (h : A) : if (!decide c) = true then A else B := by rw [if_pos (by simpa using hc)]; exact h

/-! ### a row behind posts -/
abbrev Post := Nat × Nat
def acts (xs : List Int) (p : Post) : Bool := decide (xs.getD p.2 0 < xs.getD p.1 0)
def stepRow (xs : List Int) (p : Post) : List Int := if xs.getD p.2 0 < xs.getD p.1 0 then (xs.set p.1 (xs.getD p.2 0)).set p.2 (xs.getD p.1 0) else xs
def passAll (ps : List Post) (xs : List Int) : List Int := ps.foldl stepRow xs
theorem stepRow_length (xs : List Int) (p : Post) : (stepRow xs p).length = xs.length := by
  unfold stepRow
  split <;> simp
theorem passAll_length : ∀ (ps : List Post) (xs : List Int), (passAll ps xs).length = xs.length
  | [], _ => rfl
  | p :: ps, xs => by
    show (passAll ps (stepRow xs p)).length = xs.length
    rw [passAll_length ps, stepRow_length]
theorem take_snoc {α : Type} {l : List α} {i : Nat} {x : α} (h : l[i]? = some x) : l.take (i + 1) = l.take i ++ [x] := by
  rw [List.take_add_one, h]
  rfl
theorem passAll_take {ps : List Post} {i : Nat} {p : Post} {xs : List Int} (h : ps[i]? = some p) : passAll (ps.take (i + 1)) xs = stepRow (passAll (ps.take i) xs) p := by
  unfold passAll
  rw [take_snoc h, List.foldl_append]
  rfl
def rowsAt (ps : List Post) (xs : List Int) (n : Nat) : List (List Int) := (List.range n).map fun j => passAll (ps.take (j + 1)) xs
theorem rowsAt_succ (ps : List Post) (xs : List Int) (n : Nat) : rowsAt ps xs (n + 1) = rowsAt ps xs n ++ [passAll (ps.take (n + 1)) xs] := by
  unfold rowsAt
  rw [List.range_succ, List.map_append]
  rfl
theorem rowsAt_length (ps : List Post) (xs : List Int) (n : Nat) : (rowsAt ps xs n).length = n := by
  unfold rowsAt
  rw [List.length_map, List.length_range]
def actsAt (ps : List Post) (xs : List Int) : Nat → List Int
  | 0 => []
  | n + 1 => actsAt ps xs n ++ (if acts (passAll (ps.take n) xs) (ps.getD n (0, 0)) = true then [(n : Int)] else [])
theorem actsAt_yes {ps : List Post} {xs : List Int} {n : Nat} {p : Post} (h : ps[n]? = some p) (c : acts (passAll (ps.take n) xs) p = true) : actsAt ps xs (n + 1) = actsAt ps xs n ++ [(n : Int)] := by
  have e : ps.getD n (0, 0) = p := by rw [List.getD_eq_getElem?_getD, h]; rfl
  show actsAt ps xs n ++ (if acts (passAll (ps.take n) xs) (ps.getD n (0, 0)) = true then [(n : Int)] else []) = _
  rw [e, if_pos c]
theorem actsAt_no {ps : List Post} {xs : List Int} {n : Nat} {p : Post} (h : ps[n]? = some p) (c : acts (passAll (ps.take n) xs) p = false) : actsAt ps xs (n + 1) = actsAt ps xs n := by
  have e : ps.getD n (0, 0) = p := by rw [List.getD_eq_getElem?_getD, h]; rfl
  show actsAt ps xs n ++ (if acts (passAll (ps.take n) xs) (ps.getD n (0, 0)) = true then [(n : Int)] else []) = _
  rw [e, c]
  simp
theorem actsAt_length (ps : List Post) (xs : List Int) : ∀ n, (actsAt ps xs n).length ≤ n
  | 0 => Nat.le_refl _
  | n + 1 => by
    have h := actsAt_length ps xs n
    show (actsAt ps xs n ++ (if acts (passAll (ps.take n) xs) (ps.getD n (0, 0)) = true then [(n : Int)] else [])).length ≤ n + 1
    rw [List.length_append]
    split <;> simp <;> omega
/-- the posts are a net's of that width -/
def Net (w : Nat) (ps : List Post) : Prop := ∀ p ∈ ps, p.1 < p.2 ∧ p.2 < w
theorem Net.at {w : Nat} {ps : List Post} (h : Net w ps) {i : Nat} {p : Post} (e : ps[i]? = some p) : p.1 < p.2 ∧ p.2 < w := h p (List.mem_of_getElem? e)

/-! ### places -/
theorem at_ints {xs : List Int} {i : Nat} (h : i < xs.length) : atI (xs.map V.int) (i : Int) = some (.int (xs.getD i 0)) := by
  refine atI_nat ?_
  rw [List.getElem?_map, List.getD_eq_getElem?_getD, List.getElem?_eq_getElem h]
  rfl
theorem ixN_nat {n i : Nat} (h : i < n) : ixN n (i : Int) = some i := by
  unfold ixN
  rw [if_pos (by omega), if_pos (by omega)]
  simp
theorem ixN_ints {xs : List Int} {i : Nat} (h : i < xs.length) : ixN (xs.map V.int).length (i : Int) = some i := ixN_nat (by rw [List.length_map]; exact h)
theorem set_ints (xs : List Int) (i : Nat) (v : Int) : (xs.map V.int).set i (V.int v) = (xs.set i v).map V.int := by rw [List.map_set]
theorem map_get {α β : Type} {f : α → β} {l : List α} {i : Nat} {y : β} (h : (l.map f)[i]? = some y) : ∃ x, l[i]? = some x ∧ y = f x := by
  rw [List.getElem?_map] at h
  cases e : l[i]? with
  | none => rw [e] at h; cases h
  | some x => rw [e] at h; exact ⟨x, rfl, (Option.some.inj h).symm⟩

/-! ### what lies in the heap -/
end PN
namespace L2
theorem Same.upd {H H' : Hp} {l : PySem.Addr} {o : HO} (s : Same H H') (n : H l = Option.none) : Same H (L2.upd H' l o) := fun b u e => by
  rw [upd_ne (ne_of_none e n)]
  exact s b u e
theorem Same.new {H : Hp} {l : PySem.Addr} {o : HO} (n : H l = Option.none) : Same H (L2.upd H l o) := (Same.refl H).upd n
end L2
namespace PN
open PySem L2
/-- tuples of two lanes -/
def Tups (H : Hp) (rs : List Addr) (ps : List Post) : Prop := rs.length = ps.length ∧ ∀ (i : Nat) r p, rs[i]? = some r → ps[i]? = some p → H r = some (.tup [.int (p.1 : Nat), .int (p.2 : Nat)])
theorem Tups.mono {H H' : Hp} {rs : List Addr} {ps : List Post} (h : Tups H rs ps) (s : Same H H') : Tups H' rs ps := ⟨h.1, fun i r p a b => s _ _ (h.2 i r p a b)⟩
theorem Tups.keep {H H' : Hp} {rs : List Addr} {ps : List Post} (h : Tups H rs ps) (s : ∀ b xs, H b = some (.tup xs) → H' b = some (.tup xs)) : Tups H' rs ps := ⟨h.1, fun i r p a b => s _ _ (h.2 i r p a b)⟩
theorem tup_keep {H : Hp} {l : Addr} {ys : List V} {o : HO} (e : H l = some (.lst ys)) : ∀ b xs, H b = some (.tup xs) → (L2.upd H l o) b = some (.tup xs) := fun b xs h => by
  rw [upd_ne (ne_of h e (by intro z; cases z))]
  exact h
theorem Tups.get {H : Hp} {rs : List Addr} {ps : List Post} (h : Tups H rs ps) {i : Nat} {r : Addr} (e : rs[i]? = some r) : ∃ p, ps[i]? = some p ∧ H r = some (.tup [.int (p.1 : Nat), .int (p.2 : Nat)]) := by
  have hi : i < ps.length := by rw [← h.1]; exact (List.getElem?_eq_some_iff.mp e).1
  exact ⟨ps[i], List.getElem?_eq_getElem hi, h.2 i r _ e (List.getElem?_eq_getElem hi)⟩
theorem Tups.snoc {H : Hp} {rs : List Addr} {ps : List Post} {r : Addr} {p : Post} (h : Tups H rs ps) (e : H r = some (.tup [.int (p.1 : Nat), .int (p.2 : Nat)])) : Tups H (rs ++ [r]) (ps ++ [p]) := by
  refine ⟨by rw [List.length_append, List.length_append, h.1]; rfl, fun i r' p' a b => ?_⟩
  rw [List.getElem?_append] at a b
  by_cases c : i < rs.length
  · rw [if_pos c] at a
    rw [if_pos (h.1 ▸ c)] at b
    exact h.2 i r' p' a b
  · rw [if_neg c] at a
    rw [if_neg (h.1 ▸ c)] at b
    rw [← h.1] at b
    cases hz : i - rs.length with
    | zero =>
      rw [hz] at a b
      cases a
      cases b
      exact e
    | succ n => rw [hz] at a; cases a
def Posts (H : Hp) (a : Addr) (ps : List Post) : Prop := ∃ rs : List Addr, H a = some (.lst (rs.map V.ref)) ∧ Tups H rs ps
theorem Posts.mono {H H' : Hp} {a : Addr} {ps : List Post} (h : Posts H a ps) (s : Same H H') : Posts H' a ps := let ⟨rs, e, t⟩ := h; ⟨rs, s _ _ e, t.mono s⟩
abbrev Ints (H : Hp) (a : Addr) (xs : List Int) : Prop := H a = some (.lst (xs.map V.int))
/-- lists of ints -/
def Lists (H : Hp) (rs : List Addr) (rows : List (List Int)) : Prop := rs.length = rows.length ∧ ∀ (i : Nat) r row, rs[i]? = some r → rows[i]? = some row → Ints H r row
theorem Lists.mono {H H' : Hp} {rs : List Addr} {rows : List (List Int)} (h : Lists H rs rows) (s : ∀ r ∈ rs, ∀ o, H r = some o → H' r = some o) : Lists H' rs rows :=
  ⟨h.1, fun i r row a b => s r (List.mem_of_getElem? a) _ (h.2 i r row a b)⟩
theorem Lists.get {H : Hp} {rs : List Addr} {rows : List (List Int)} (h : Lists H rs rows) {i : Nat} {r : Addr} (e : rs[i]? = some r) : ∃ row, rows[i]? = some row ∧ Ints H r row := by
  have hi : i < rows.length := by rw [← h.1]; exact (List.getElem?_eq_some_iff.mp e).1
  exact ⟨rows[i], List.getElem?_eq_getElem hi, h.2 i r _ e (List.getElem?_eq_getElem hi)⟩
theorem Lists.snoc {H : Hp} {rs : List Addr} {rows : List (List Int)} {r : Addr} {row : List Int} (h : Lists H rs rows) (e : Ints H r row) : Lists H (rs ++ [r]) (rows ++ [row]) := by
  refine ⟨by rw [List.length_append, List.length_append, h.1]; rfl, fun i r' p' a b => ?_⟩
  rw [List.getElem?_append] at a b
  by_cases c : i < rs.length
  · rw [if_pos c] at a
    rw [if_pos (h.1 ▸ c)] at b
    exact h.2 i r' p' a b
  · rw [if_neg c] at a
    rw [if_neg (h.1 ▸ c)] at b
    rw [← h.1] at b
    cases hz : i - rs.length with
    | zero =>
      rw [hz] at a b
      cases a
      cases b
      exact e
    | succ n => rw [hz] at a; cases a

/-! ### two stacks that hold alike things: how _law_stays_so goes through them -/
inductive Goes (H : Hp) : Nat → List V → List V → Prop where
  | nil : Goes H 0 [] []
  | int {n : Nat} {xs ys : List V} (i : Int) (h : Goes H n xs ys) : Goes H (n + 1) (xs ++ [.int i]) (ys ++ [.int i])
  | str {n : Nat} {xs ys : List V} (x : PySem.Str) (h : Goes H n xs ys) : Goes H (n + 1) (xs ++ [.str x]) (ys ++ [.str x])
  | lst {n : Nat} {xs ys as bs : List V} {a b : Addr} (ha : H a = some (.lst as)) (hb : H b = some (.lst bs)) (hl : as.length = bs.length) (h : Goes H n (xs ++ as) (ys ++ bs)) : Goes H (n + 1) (xs ++ [.ref a]) (ys ++ [.ref b])
  | tup {n : Nat} {xs ys as bs : List V} {a b : Addr} (ha : H a = some (.tup as)) (hb : H b = some (.tup bs)) (hl : as.length = bs.length) (h : Goes H n (xs ++ as) (ys ++ bs)) : Goes H (n + 1) (xs ++ [.ref a]) (ys ++ [.ref b])
theorem Goes.len {H : Hp} {n : Nat} {xs ys : List V} (g : Goes H n xs ys) : xs.length ≤ n ∧ ys.length ≤ n := by
  induction g with
  | nil => exact ⟨Nat.le_refl _, Nat.le_refl _⟩
  | int i h ih => simp only [List.length_append, List.length_singleton]; omega
  | str x h ih => simp only [List.length_append, List.length_singleton]; omega
  | lst ha hb hl h ih => simp only [List.length_append, List.length_singleton] at *; omega
  | tup ha hb hl h ih => simp only [List.length_append, List.length_singleton] at *; omega
/-- these two rows of things are alike, k turns -/
def Adds (H : Hp) (k : Nat) (as bs : List V) : Prop := ∀ (n : Nat) (xs ys : List V), Goes H n xs ys → Goes H (n + k) (xs ++ as) (ys ++ bs)
theorem Adds.nil {H : Hp} : Adds H 0 [] [] := fun n xs ys g => by simpa using g
theorem Adds.app {H : Hp} {k m : Nat} {as bs cs ds : List V} (p : Adds H k as bs) (q : Adds H m cs ds) : Adds H (k + m) (as ++ cs) (bs ++ ds) := fun n xs ys g => by
  have z := q _ _ _ (p _ _ _ g)
  rw [Nat.add_assoc, List.append_assoc, List.append_assoc] at z
  exact z
theorem Adds.int {H : Hp} (i : Int) : Adds H 1 [.int i] [.int i] := fun _ _ _ g => g.int i
theorem Adds.lst {H : Hp} {k : Nat} {as bs : List V} {a b : Addr} (p : Adds H k as bs) (ha : H a = some (.lst as)) (hb : H b = some (.lst bs)) (hl : as.length = bs.length) : Adds H (k + 1) [.ref a] [.ref b] := fun n xs ys g => (p _ _ _ g).lst ha hb hl
theorem Adds.tup {H : Hp} {k : Nat} {as bs : List V} {a b : Addr} (p : Adds H k as bs) (ha : H a = some (.tup as)) (hb : H b = some (.tup bs)) (hl : as.length = bs.length) : Adds H (k + 1) [.ref a] [.ref b] := fun n xs ys g => (p _ _ _ g).tup ha hb hl
theorem Adds.str {H : Hp} (x : PySem.Str) : Adds H 1 [.str x] [.str x] := fun _ _ _ g => g.str x
theorem Adds.strs {H : Hp} : ∀ (xs : List PySem.Str), Adds H xs.length (xs.map V.str) (xs.map V.str)
  | [] => Adds.nil
  | x :: xs => by
    have z := (Adds.str (H := H) x).app (Adds.strs xs)
    rw [Nat.add_comm] at z
    exact z
theorem Adds.ints {H : Hp} : ∀ (xs : List Int), Adds H xs.length (xs.map V.int) (xs.map V.int)
  | [] => Adds.nil
  | x :: xs => by
    have z := (Adds.int (H := H) x).app (Adds.ints xs)
    rw [Nat.add_comm] at z
    exact z
theorem Adds.each {H : Hp} {k : Nat} : ∀ (rs : List Addr), (∀ r ∈ rs, Adds H k [.ref r] [.ref r]) → Adds H (rs.length * k) (rs.map V.ref) (rs.map V.ref)
  | [], _ => by simpa using Adds.nil
  | r :: rs, h => by
    have z := (h r List.mem_cons_self).app (Adds.each rs fun q hq => h q (List.mem_cons_of_mem _ hq))
    have e : k + rs.length * k = (r :: rs).length * k := by rw [List.length_cons, Nat.add_mul, Nat.one_mul, Nat.add_comm]
    rw [e] at z
    exact z
theorem Adds.tups {H : Hp} {rs : List Addr} {ps : List Post} (t : Tups H rs ps) : Adds H (rs.length * 3) (rs.map V.ref) (rs.map V.ref) := by
  refine Adds.each rs fun r hr => ?_
  obtain ⟨i, hi⟩ := List.mem_iff_getElem?.mp hr
  obtain ⟨p, _, e⟩ := t.get hi
  exact ((Adds.int (p.1 : Int)).app (Adds.int (p.2 : Int))).tup e e rfl
theorem Adds.goes {H : Hp} {k : Nat} {as bs : List V} (p : Adds H k as bs) : Goes H k as bs := by
  have z := p 0 [] [] .nil
  rw [Nat.zero_add] at z
  exact z
/-! ### a walk: the lanes at l, the rows so far at r, the numbers of the acting posts at c -/
structure WInv (H1 H' : Hp) (l r c : Addr) (xs : List Int) (rs : List Addr) (rows : List (List Int)) (ac : List Int) : Prop where
  n1 : H1 l = none
  n2 : H1 r = none
  n3 : H1 c = none
  lr : l ≠ r
  lc : l ≠ c
  rc : r ≠ c
  same : Same H1 H'
  el : Ints H' l xs
  er : H' r = some (.lst (rs.map V.ref))
  ls : Lists H' rs rows
  ec : Ints H' c ac
  nq : ∀ q ∈ rs, q ≠ l ∧ q ≠ r ∧ q ≠ c
section
variable {H1 H' : Hp} {l r c : Addr} {xs : List Int} {rs : List Addr} {rows : List (List Int)} {ac : List Int}
theorem WInv.start (h1 : H1 l = none) {o : HO} (ho : o = .lst (xs.map V.int)) (h2 : (upd H1 l o) r = none) (h3 : (upd (upd H1 l o) r (.lst [])) c = none) :
    WInv H1 (upd (upd (upd H1 l o) r (.lst [])) c (.lst [])) l r c xs [] [] [] := by
  subst ho
  have lr : l ≠ r := ne_of_none upd_same h2
  have rc : r ≠ c := ne_of_none upd_same h3
  have lc : l ≠ c := ne_of_none (by rw [upd_ne lr]; exact upd_same) h3
  have h2' : H1 r = none := by rw [upd_ne lr.symm] at h2; exact h2
  have h3' : H1 c = none := by rw [upd_ne rc.symm, upd_ne lc.symm] at h3; exact h3
  exact ⟨h1, h2', h3', lr, lc, rc, ((Same.new h1).upd h2').upd h3', by show _ = _; rw [upd_ne lc, upd_ne lr, upd_same], by rw [upd_ne rc, upd_same]; rfl, ⟨rfl, fun i q row a _ => by simp at a⟩, upd_same, fun q hq => by simp at hq⟩
theorem WInv.new (I : WInv H1 H' l r c xs rs rows ac) {q : Addr} {o : HO} (n : H' q = none) : WInv H1 (upd H' q o) l r c xs rs rows ac where
  n1 := I.n1
  n2 := I.n2
  n3 := I.n3
  lr := I.lr
  lc := I.lc
  rc := I.rc
  same := I.same.upd (I.same.free n)
  el := by show _ = _; rw [upd_ne (ne_of_none I.el n)]; exact I.el
  er := by rw [upd_ne (ne_of_none I.er n)]; exact I.er
  ls := I.ls.mono fun b _ o e => by rw [upd_ne (ne_of_none e n)]; exact e
  ec := by show _ = _; rw [upd_ne (ne_of_none I.ec n)]; exact I.ec
  nq := I.nq
theorem WInv.lane (I : WInv H1 H' l r c xs rs rows ac) {H3 : Hp} {ys : List Int} (e : Ints H3 l ys) (k : ∀ b, b ≠ l → H3 b = H' b) : WInv H1 H3 l r c ys rs rows ac where
  n1 := I.n1
  n2 := I.n2
  n3 := I.n3
  lr := I.lr
  lc := I.lc
  rc := I.rc
  same := fun b o z => by rw [k b (ne_of_none z I.n1)]; exact I.same b o z
  el := e
  er := by rw [k r I.lr.symm]; exact I.er
  ls := I.ls.mono fun b hb o z => by rw [k b (I.nq b hb).1]; exact z
  ec := by show _ = _; rw [k c I.lc.symm]; exact I.ec
  nq := I.nq
theorem WInv.act (I : WInv H1 H' l r c xs rs rows ac) (n : Int) : WInv H1 (upd H' c (.lst (ac.map V.int ++ [.int n]))) l r c xs rs rows (ac ++ [n]) where
  n1 := I.n1
  n2 := I.n2
  n3 := I.n3
  lr := I.lr
  lc := I.lc
  rc := I.rc
  same := I.same.upd I.n3
  el := by show _ = _; rw [upd_ne I.lc]; exact I.el
  er := by rw [upd_ne I.rc]; exact I.er
  ls := I.ls.mono fun b hb o z => by rw [upd_ne (I.nq b hb).2.2]; exact z
  ec := by show _ = _; rw [upd_same, List.map_append]; rfl
  nq := I.nq
theorem WInv.row (I : WInv H1 H' l r c xs rs rows ac) {q : Addr} (n : H' q = none) :
    WInv H1 (upd (upd H' q (.lst (xs.map V.int))) r (.lst (rs.map V.ref ++ [.ref q]))) l r c xs (rs ++ [q]) (rows ++ [xs]) ac := by
  have J := I.new (o := .lst (xs.map V.int)) n
  have nl : q ≠ l := (ne_of_none I.el n).symm
  have nr : q ≠ r := (ne_of_none I.er n).symm
  have nc : q ≠ c := (ne_of_none I.ec n).symm
  refine ⟨I.n1, I.n2, I.n3, I.lr, I.lc, I.rc, J.same.upd I.n2, ?_, ?_, ?_, ?_, ?_⟩
  · show _ = _
    rw [upd_ne I.lr]
    exact J.el
  · rw [upd_same, List.map_append]
    rfl
  · have z := J.ls.snoc (r := q) (row := xs) upd_same
    refine z.mono fun b hb o e => ?_
    rw [upd_ne]
    · exact e
    · rcases List.mem_append.mp hb with hb | hb
      · exact (I.nq b hb).2.1
      · rw [List.mem_singleton.mp hb]
        exact nr
  · show _ = _
    rw [upd_ne I.rc.symm]
    exact J.ec
  · intro b hb
    rcases List.mem_append.mp hb with hb | hb
    · exact I.nq b hb
    · rw [List.mem_singleton.mp hb]
      exact ⟨nl, nr, nc⟩
end
/-! ### slices of lists of ints -/
def cutI (xs : List Int) (lo hi : Option Int) : List Int := (xs.drop (HT.sIx xs.length 0 lo)).take (HT.sIx xs.length xs.length hi - HT.sIx xs.length 0 lo)
theorem cutV_ints (xs : List Int) (lo hi : Option Int) : cutV (xs.map V.int) lo hi = (cutI xs lo hi).map V.int := by
  unfold cutV cutI
  rw [List.length_map, ← List.map_drop, ← List.map_take]
theorem cutI_length (xs : List Int) (lo hi : Option Int) : (cutI xs lo hi).length ≤ xs.length := by
  unfold cutI
  rw [List.length_take, List.length_drop]
  omega
theorem cut_at {H : Hp} {a : Addr} {xs : List Int} {lo hi : Option Int} : Ints (upd H a (.lst (cutV (xs.map V.int) lo hi))) a (cutI xs lo hi) := by
  show _ = _
  rw [upd_same, cutV_ints]
theorem big {n : Nat} (h : n ≤ 100000) : n ≤ sizeLine := Nat.le_trans h (by decide)
theorem big' {n : Nat} (h : n < 100000) : n < sizeLine := Nat.lt_of_lt_of_le h (by decide)
end PN

namespace PN
open PySem L2
/-! ### rows by their places -/
theorem getD_ext {xs ys : List Int} (hl : xs.length = ys.length) (h : ∀ j, j < xs.length → xs.getD j 0 = ys.getD j 0) : xs = ys := by
  refine List.ext_getElem hl fun i h1 h2 => ?_
  have z := h i h1
  rw [List.getD_eq_getElem?_getD, List.getD_eq_getElem?_getD, List.getElem?_eq_getElem h1, List.getElem?_eq_getElem h2] at z
  exact z
theorem getD_set {xs : List Int} {i j : Nat} {v : Int} (h : i < xs.length) : (xs.set i v).getD j 0 = if j = i then v else xs.getD j 0 := by
  rw [List.getD_eq_getElem?_getD, List.getElem?_set, List.getD_eq_getElem?_getD]
  by_cases e : i = j
  · subst e
    rw [if_pos rfl, if_pos h, if_pos rfl]
    rfl
  · rw [if_neg e, if_neg (Ne.symm e)]
theorem stepRow_get {xs : List Int} {p : Post} (h1 : p.1 < xs.length) (h2 : p.2 < xs.length) (j : Nat) :
    (stepRow xs p).getD j 0 = if xs.getD p.2 0 < xs.getD p.1 0 then (if j = p.2 then xs.getD p.1 0 else if j = p.1 then xs.getD p.2 0 else xs.getD j 0) else xs.getD j 0 := by
  unfold stepRow
  split
  · rw [getD_set (by rw [List.length_set]; exact h2), getD_set h1]
  · rfl
theorem getD_map {f : Int → Int} {xs : List Int} {j : Nat} (h : j < xs.length) : (xs.map f).getD j 0 = f (xs.getD j 0) := by
  rw [List.getD_eq_getElem?_getD, List.getD_eq_getElem?_getD, List.getElem?_map, List.getElem?_eq_getElem h]
  rfl
theorem getD_rev {xs : List Int} {j : Nat} (h : j < xs.length) : xs.reverse.getD j 0 = xs.getD (xs.length - 1 - j) 0 := by
  rw [List.getD_eq_getElem?_getD, List.getD_eq_getElem?_getD, List.getElem?_reverse h]
/-! ### the mirror -/
def negrev (xs : List Int) : List Int := xs.reverse.map fun n => 0 - n
def mirrorP (w : Nat) (p : Post) : Post := (w - 1 - p.2, w - 1 - p.1)
def mirrorAll (w : Nat) (ps : List Post) : List Post := ps.map (mirrorP w)
theorem negrev_length (xs : List Int) : (negrev xs).length = xs.length := by
  unfold negrev
  rw [List.length_map, List.length_reverse]
theorem negrev_get {xs : List Int} {j : Nat} (h : j < xs.length) : (negrev xs).getD j 0 = 0 - xs.getD (xs.length - 1 - j) 0 := by
  unfold negrev
  rw [getD_map (by rw [List.length_reverse]; exact h), getD_rev h]
theorem step_mirror {xs : List Int} {p : Post} (h1 : p.1 < p.2) (h2 : p.2 < xs.length) : stepRow (negrev xs) (mirrorP xs.length p) = negrev (stepRow xs p) := by
  have k1 : p.1 < xs.length := by omega
  have m1 : (mirrorP xs.length p).1 < (negrev xs).length := by rw [negrev_length]; show xs.length - 1 - p.2 < xs.length; omega
  have m2 : (mirrorP xs.length p).2 < (negrev xs).length := by rw [negrev_length]; show xs.length - 1 - p.1 < xs.length; omega
  refine getD_ext (by rw [stepRow_length, negrev_length, negrev_length, stepRow_length]) fun j hj => ?_
  rw [stepRow_length, negrev_length] at hj
  rw [stepRow_get m1 m2, negrev_get (xs := stepRow xs p) (by rw [stepRow_length]; exact hj), stepRow_length, stepRow_get k1 h2]
  rw [negrev_length] at m1 m2
  rw [negrev_get m1, negrev_get m2, negrev_get hj]
  have e1 : xs.length - 1 - (mirrorP xs.length p).1 = p.2 := by show xs.length - 1 - (xs.length - 1 - p.2) = p.2; omega
  have e2 : xs.length - 1 - (mirrorP xs.length p).2 = p.1 := by show xs.length - 1 - (xs.length - 1 - p.1) = p.1; omega
  rw [e1, e2]
  have e3 : (j = (mirrorP xs.length p).2) ↔ (xs.length - 1 - j = p.1) := by show j = xs.length - 1 - p.1 ↔ _; omega
  have e4 : (j = (mirrorP xs.length p).1) ↔ (xs.length - 1 - j = p.2) := by show j = xs.length - 1 - p.2 ↔ _; omega
  by_cases c : xs.getD p.2 0 < xs.getD p.1 0
  · rw [if_pos (by omega), if_pos c]
    by_cases c1 : xs.length - 1 - j = p.1
    · rw [if_pos (e3.mpr c1), if_neg (by omega), if_pos c1]
    · rw [if_neg (fun z => c1 (e3.mp z))]
      by_cases c2 : xs.length - 1 - j = p.2
      · rw [if_pos (e4.mpr c2), if_pos c2]
      · rw [if_neg (fun z => c2 (e4.mp z)), if_neg c2, if_neg c1]
  · rw [if_neg (by omega), if_neg c]
theorem pass_mirror : ∀ (ps : List Post) (xs : List Int), Net xs.length ps → passAll (mirrorAll xs.length ps) (negrev xs) = negrev (passAll ps xs)
  | [], _, _ => rfl
  | p :: ps, xs, h => by
    obtain ⟨h1, h2⟩ := h p List.mem_cons_self
    show passAll (mirrorAll xs.length ps) (stepRow (negrev xs) (mirrorP xs.length p)) = negrev (passAll ps (stepRow xs p))
    rw [step_mirror h1 h2]
    have e : xs.length = (stepRow xs p).length := (stepRow_length xs p).symm
    rw [e]
    exact pass_mirror ps _ fun q hq => by rw [← e]; exact h q (List.mem_cons_of_mem _ hq)
theorem mirror_net {w : Nat} {ps : List Post} (h : Net w ps) : Net w (mirrorAll w ps) := fun q hq => by
  unfold mirrorAll at hq
  obtain ⟨p, hp, rfl⟩ := List.mem_map.mp hq
  obtain ⟨h1, h2⟩ := h p hp
  show w - 1 - p.2 < w - 1 - p.1 ∧ w - 1 - p.1 < w
  omega
theorem mirror_twice {w : Nat} : ∀ {ps : List Post}, Net w ps → mirrorAll w (mirrorAll w ps) = ps
  | [], _ => rfl
  | p :: ps, h => by
    obtain ⟨h1, h2⟩ := h p List.mem_cons_self
    show mirrorP w (mirrorP w p) :: mirrorAll w (mirrorAll w ps) = p :: ps
    rw [mirror_twice fun q hq => h q (List.mem_cons_of_mem _ hq)]
    have e : mirrorP w (mirrorP w p) = p := by
      show (w - 1 - (w - 1 - p.1), w - 1 - (w - 1 - p.2)) = p
      rw [show w - 1 - (w - 1 - p.1) = p.1 by omega, show w - 1 - (w - 1 - p.2) = p.2 by omega]
    rw [e]
theorem mirror_take {w : Nat} {ps : List Post} {i : Nat} {p : Post} (h : ps[i]? = some p) : mirrorAll w (ps.take (i + 1)) = mirrorAll w (ps.take i) ++ [mirrorP w p] := by
  unfold mirrorAll
  rw [take_snoc h, List.map_append]
  rfl
/-! ### two numbers sorted -/
theorem sorted_two {x y : Int} {ns : List Int} (hp : ns.Perm [x, y]) (hs : ns.Pairwise (· ≤ ·)) : ns = if y < x then [y, x] else [x, y] := by
  have hl : ns.length = 2 := hp.length_eq
  match ns, hl with
  | [u, v], _ =>
    have huv : u ≤ v := by
      rw [List.pairwise_cons] at hs
      exact hs.1 v (by simp)
    have a1 : u = x ∨ u = y := by
      have z := hp.mem_iff (a := u)
      simpa using z
    have a2 : v = x ∨ v = y := by
      have z := hp.mem_iff (a := v)
      simpa using z
    have a3 : x = u ∨ x = v := by
      have z := hp.mem_iff (a := x)
      simpa using z
    have a4 : y = u ∨ y = v := by
      have z := hp.mem_iff (a := y)
      simpa using z
    split
    · rw [show u = y by omega, show v = x by omega]
    · rw [show u = x by omega, show v = y by omega]
theorem two_ints {x y : Int} : [V.int x, V.int y] = [x, y].map V.int := rfl
theorem step_sorted {xs : List Int} {p : Post} (h1 : p.1 < xs.length) (h2 : p.2 < xs.length) (c : ¬ xs.getD p.2 0 < xs.getD p.1 0) : (xs.set p.1 (xs.getD p.1 0)).set p.2 (xs.getD p.2 0) = stepRow xs p := by
  refine getD_ext (by rw [List.length_set, List.length_set, stepRow_length]) fun j hj => ?_
  rw [List.length_set, List.length_set] at hj
  rw [getD_set (by rw [List.length_set]; exact h2), getD_set h1, stepRow_get h1 h2, if_neg c]
  by_cases e2 : j = p.2
  · rw [if_pos e2, e2]
  · rw [if_neg e2]
    by_cases e1 : j = p.1
    · rw [if_pos e1, e1]
    · rw [if_neg e1]
/-! ### posts as data -/
def tupD (p : Post) : PyData := .tuple [.int (p.1 : Nat), .int (p.2 : Nat)]
theorem paired_of {α β : Type} {F : α → β → Prop} : ∀ {l : List α} {m : List β}, l.length = m.length → (∀ (i : Nat) x y, l[i]? = some x → m[i]? = some y → F x y) → Paired F l m
  | [], [], _, _ => .nil
  | x :: l, y :: m, e, h => .cons (h 0 x y rfl rfl) (paired_of (by simpa using e) fun i a b ha hb => h (i + 1) a b (by simpa using ha) (by simpa using hb))
  | [], _ :: _, e, _ => by simp at e
  | _ :: _, [], e, _ => by simp at e
section
variable {P : Program} {w : World} {H : Hp}
theorem post_dt {r : Addr} {a b : Int} (e : H r = some (.tup [.int a, .int b])) : DtV P w H (.ref r) (.tuple [.int a, .int b]) := DtV.tup e (.cons (DtV.int _) (.cons (DtV.int _) .nil))
theorem tups_dt {rs : List Addr} {ps : List Post} (t : Tups H rs ps) : Paired (DtV P w H) (rs.map V.ref) (ps.map tupD) := by
  refine paired_of (by rw [List.length_map, List.length_map]; exact t.1) fun i x y hx hy => ?_
  obtain ⟨r, hr, rfl⟩ := map_get hx
  obtain ⟨p, hp, rfl⟩ := map_get hy
  exact post_dt (t.2 i r p hr hp)
theorem posts_dt {a : Addr} {ps : List Post} (h : Posts H a ps) : DtV P w H (.ref a) (.list (ps.map tupD)) := by
  obtain ⟨rs, e, t⟩ := h
  exact DtV.lst e (tups_dt t)
end
theorem lay_tups : ∀ ps : List Post, PyData.canLayAll0 (ps.map tupD) = true
  | [] => by simp [PyData.canLayAll0]
  | p :: r => by simp [PyData.canLayAll0, PyData.canLay0, tupD, lay_tups r]
theorem depth_tups : ∀ ps : List Post, PyData.depthAll (ps.map tupD) ≤ 60
  | [] => by simp [PyData.depthAll]
  | p :: r => by
    have z := depth_tups r
    simp only [List.map_cons, PyData.depthAll, PyData.depth, tupD]
    omega
theorem shaped_posts (ps : List Post) : SeqAt.shaped (.list (ps.map tupD)) = true := shaped_flat (lay_tups ps) (depth_tups ps)
theorem eqv_posts : ∀ ps : List Post, PyData.eqv (.list (ps.map tupD)) (.list (ps.map tupD)) = true
  | [] => by simp [PyData.eqv, PyData.eqvAll]
  | p :: r => by
    have z := eqv_posts r
    simp only [PyData.eqv] at z
    simp [PyData.eqv, PyData.eqvAll, tupD]
    simpa [tupD] using z
end PN

namespace PN
open PySem L2
/-! ### bits -/
def bitsOf (m : Int) (xs : List Int) : List Int := xs.map fun n => if m ≤ n then 1 else 0
theorem bitsOf_length (m : Int) (xs : List Int) : (bitsOf m xs).length = xs.length := by
  unfold bitsOf
  rw [List.length_map]
theorem bitsOf_get {m : Int} {xs : List Int} {j : Nat} (h : j < xs.length) : (bitsOf m xs).getD j 0 = if m ≤ xs.getD j 0 then 1 else 0 := by
  unfold bitsOf
  rw [getD_map h]
theorem step_bits {m : Int} {xs : List Int} {p : Post} (h1 : p.1 < xs.length) (h2 : p.2 < xs.length) : stepRow (bitsOf m xs) p = bitsOf m (stepRow xs p) := by
  have k1 : p.1 < (bitsOf m xs).length := by rw [bitsOf_length]; exact h1
  have k2 : p.2 < (bitsOf m xs).length := by rw [bitsOf_length]; exact h2
  refine getD_ext (by rw [stepRow_length, bitsOf_length, bitsOf_length, stepRow_length]) fun j hj => ?_
  rw [stepRow_length, bitsOf_length] at hj
  rw [stepRow_get k1 k2, bitsOf_get (xs := stepRow xs p) (by rw [stepRow_length]; exact hj), stepRow_get h1 h2, bitsOf_get h1, bitsOf_get h2, bitsOf_get hj]
  by_cases e2 : j = p.2
  · subst e2
    simp only [if_true]
    split <;> split <;> split <;> omega
  · by_cases e1 : j = p.1
    · subst e1
      simp only [if_neg e2, if_true]
      split <;> split <;> split <;> omega
    · simp only [if_neg e2, if_neg e1]
      split <;> split <;> split <;> first | rfl | omega
theorem pass_bits {m : Int} : ∀ (ps : List Post) (xs : List Int), Net xs.length ps → passAll ps (bitsOf m xs) = bitsOf m (passAll ps xs)
  | [], _, _ => rfl
  | p :: ps, xs, h => by
    obtain ⟨h1, h2⟩ := h p List.mem_cons_self
    show passAll ps (stepRow (bitsOf m xs) p) = bitsOf m (passAll ps (stepRow xs p))
    rw [step_bits (by omega) h2]
    exact pass_bits ps _ fun q hq => by rw [stepRow_length]; exact h q (List.mem_cons_of_mem _ hq)
theorem bitsOf_take {m : Int} {xs : List Int} {i : Nat} {x : Int} (h : xs[i]? = some x) : bitsOf m (xs.take (i + 1)) = bitsOf m (xs.take i) ++ [if m ≤ x then 1 else 0] := by
  unfold bitsOf
  rw [take_snoc h, List.map_append]
  rfl
/-! ### rows in order -/
abbrev Rising (xs : List Int) : Prop := xs.Pairwise (· ≤ ·)
theorem rising_of_steps : ∀ {xs : List Int}, (∀ j, j + 1 < xs.length → xs.getD j 0 ≤ xs.getD (j + 1) 0) → Rising xs
  | [], _ => .nil
  | [x], _ => by simp [Rising]
  | x :: y :: r, h => by
    have ih : Rising (y :: r) := rising_of_steps fun j hj => by
      have z := h (j + 1) (by simpa using hj)
      simpa using z
    have h0 : x ≤ y := by
      have z := h 0 (by simp)
      simpa using z
    refine List.pairwise_cons.mpr ⟨fun z hz => ?_, ih⟩
    rcases List.mem_cons.mp hz with rfl | hz
    · exact h0
    · exact Int.le_trans h0 ((List.pairwise_cons.mp ih).1 z hz)
theorem steps_of_rising {xs : List Int} (h : Rising xs) {j : Nat} (hj : j + 1 < xs.length) : xs.getD j 0 ≤ xs.getD (j + 1) 0 := by
  have z := (List.pairwise_iff_getElem.mp h) j (j + 1) (by omega) hj (Nat.lt_succ_self _)
  rw [List.getD_eq_getElem?_getD, List.getD_eq_getElem?_getD, List.getElem?_eq_getElem hj, List.getElem?_eq_getElem (show j < xs.length by omega)]
  exact z
theorem sorted_same {a b : List Int} (hp : a.Perm b) (ha : Rising a) (hb : Rising b) : a = b := List.Perm.eq_of_pairwise (fun x y _ _ h1 h2 => Int.le_antisymm h1 h2) ha hb hp
theorem eqv_ints (xs ys : List Int) : PyData.eqv (.list (xs.map PyData.int)) (.list (ys.map PyData.int)) = decide (xs = ys) := by
  simp only [PyData.eqv]
  exact PySem.W.ked_eqvAll xs ys
/-- a row is itself sorted just where it is in order -/
theorem eq_sorted {xs ns : List Int} (hp : ns.Perm xs) (hs : Rising ns) : (xs = ns) ↔ Rising xs := ⟨fun e => by rw [e]; exact hs, fun h => (sorted_same hp hs h).symm⟩
end PN

namespace PN
open PySem L2
/-! ### the rows of noughts and ones, in two orders -/
def rowsP : Nat → List (List Int)
  | 0 => [[]]
  | n + 1 => (rowsP n).map (fun r => 0 :: r) ++ (rowsP n).map (fun r => 1 :: r)
def rowsL : Nat → List (List Int)
  | 0 => [[]]
  | n + 1 => (rowsL n).map (fun r => r ++ [0]) ++ (rowsL n).map (fun r => r ++ [1])
theorem rowsP_length : ∀ n, (rowsP n).length = 2 ^ n
  | 0 => rfl
  | n + 1 => by
    show ((rowsP n).map (fun r => 0 :: r) ++ (rowsP n).map (fun r => 1 :: r)).length = 2 ^ (n + 1)
    rw [List.length_append, List.length_map, List.length_map, rowsP_length n, Nat.pow_succ]
    omega
theorem rowsL_length : ∀ n, (rowsL n).length = 2 ^ n
  | 0 => rfl
  | n + 1 => by
    show ((rowsL n).map (fun r => r ++ [0]) ++ (rowsL n).map (fun r => r ++ [1])).length = 2 ^ (n + 1)
    rw [List.length_append, List.length_map, List.length_map, rowsL_length n, Nat.pow_succ]
    omega
theorem rowsP_row : ∀ n, ∀ r ∈ rowsP n, r.length = n
  | 0, r, h => by
    rw [show rowsP 0 = [[]] from rfl, List.mem_singleton] at h
    rw [h]
    rfl
  | n + 1, r, h => by
    have h' : r ∈ (rowsP n).map (fun r => 0 :: r) ++ (rowsP n).map (fun r => 1 :: r) := h
    rcases List.mem_append.mp h' with h1 | h1
    · obtain ⟨q, hq, rfl⟩ := List.mem_map.mp h1
      rw [List.length_cons, rowsP_row n q hq]
    · obtain ⟨q, hq, rfl⟩ := List.mem_map.mp h1
      rw [List.length_cons, rowsP_row n q hq]
theorem mem_rowsP : ∀ (n : Nat) (r : List Int), r.length = n → (∀ x ∈ r, x = 0 ∨ x = 1) → r ∈ rowsP n
  | 0, r, h, _ => by
    rw [List.length_eq_zero_iff.mp h]
    exact List.mem_singleton.mpr rfl
  | n + 1, [], h, _ => by simp at h
  | n + 1, x :: r, h, hx => by
    have ih := mem_rowsP n r (by simpa using h) fun y hy => hx y (List.mem_cons_of_mem _ hy)
    show x :: r ∈ (rowsP n).map (fun r => 0 :: r) ++ (rowsP n).map (fun r => 1 :: r)
    rcases hx x List.mem_cons_self with e | e
    · rw [e]; exact List.mem_append_left _ (List.mem_map.mpr ⟨r, ih, rfl⟩)
    · rw [e]; exact List.mem_append_right _ (List.mem_map.mpr ⟨r, ih, rfl⟩)
/-! ### passing keeps the numbers -/
theorem stepRow_perm (xs : List Int) (p : Post) (h1 : p.1 < xs.length) (h2 : p.2 < xs.length) (hne : p.1 ≠ p.2) : (stepRow xs p).Perm xs := by
  unfold stepRow
  split
  · rw [List.getD_eq_getElem?_getD, List.getD_eq_getElem?_getD, List.getElem?_eq_getElem h1, List.getElem?_eq_getElem h2]
    show ((xs.set p.1 xs[p.2]).set p.2 xs[p.1]).Perm xs
    exact List.set_set_perm h1 h2
  · exact List.Perm.refl _
theorem passAll_perm : ∀ (ps : List Post) (xs : List Int), Net xs.length ps → (passAll ps xs).Perm xs
  | [], _, _ => List.Perm.refl _
  | p :: ps, xs, h => by
    obtain ⟨h1, h2⟩ := h p List.mem_cons_self
    have ih := passAll_perm ps (stepRow xs p) fun q hq => by rw [stepRow_length]; exact h q (List.mem_cons_of_mem _ hq)
    exact ih.trans (stepRow_perm xs p (by omega) h2 (by omega))
/-! ### noughts and ones tell -/
theorem not_rising {xs : List Int} (h : ¬ Rising xs) : ∃ j, j + 1 < xs.length ∧ xs.getD (j + 1) 0 < xs.getD j 0 := by
  refine Classical.byContradiction fun c => h (rising_of_steps fun j hj => ?_)
  refine Int.not_lt.mp fun z => c ⟨j, hj, z⟩
theorem getD_mem {xs : List Int} {j : Nat} (h : j < xs.length) : xs.getD j 0 ∈ xs := by
  rw [List.getD_eq_getElem?_getD, List.getElem?_eq_getElem h]
  exact List.getElem_mem h
/-- a row that is out of order has bits out of order, by one of its numbers -/
theorem bits_tell {xs : List Int} (h : ¬ Rising xs) : ∃ m ∈ xs, ¬ Rising (bitsOf m xs) := by
  obtain ⟨j, hj, hlt⟩ := not_rising h
  refine ⟨xs.getD j 0, getD_mem (by omega), fun r => ?_⟩
  have z := steps_of_rising r (j := j) (by rw [bitsOf_length]; exact hj)
  rw [bitsOf_get (show j < xs.length by omega), bitsOf_get hj, if_pos (Int.le_refl _), if_neg (by omega)] at z
  omega
/-- the first row of noughts and ones that the posts don't put in order -/
def badB (ps : List Post) (r : List Int) : Bool := !decide (Rising (passAll ps r))
def firstBad (w : Nat) (ps : List Post) : Option (List Int) := (rowsP w).find? (badB ps)
theorem bits_in {m : Int} {xs : List Int} : bitsOf m xs ∈ rowsP xs.length := mem_rowsP _ _ (bitsOf_length m xs) fun x hx => by
  unfold bitsOf at hx
  obtain ⟨n, _, rfl⟩ := List.mem_map.mp hx
  split
  · exact .inr rfl
  · exact .inl rfl
theorem all_sorted {ps : List Post} {xs : List Int} (hn : Net xs.length ps) (h : firstBad xs.length ps = none) : Rising (passAll ps xs) := by
  refine Classical.byContradiction fun c => ?_
  obtain ⟨m, _, hm⟩ := bits_tell c
  rw [← pass_bits ps xs hn] at hm
  have z := List.find?_eq_none.mp h _ (bits_in (m := m) (xs := xs))
  unfold badB at z
  simp at z
  exact hm z
/-! ### a lane left alone -/
theorem passAll_zeros : ∀ (ps : List Post) (xs : List Int), Net xs.length ps → (∀ p ∈ ps, xs.getD p.1 0 ≤ xs.getD p.2 0) → passAll ps xs = xs
  | [], _, _, _ => rfl
  | p :: ps, xs, h, hz => by
    have e : stepRow xs p = xs := by
      unfold stepRow
      rw [if_neg (by have := hz p List.mem_cons_self; omega)]
    show passAll ps (stepRow xs p) = xs
    rw [e]
    exact passAll_zeros ps xs (fun q hq => h q (List.mem_cons_of_mem _ hq)) fun q hq => hz q (List.mem_cons_of_mem _ hq)
theorem passAll_last : ∀ (ps : List Post) (xs : List Int) (n : Nat), xs.length = n + 1 → Net n ps → (passAll ps xs).getD n 0 = xs.getD n 0
  | [], _, _, _, _ => rfl
  | p :: ps, xs, n, hl, h => by
    obtain ⟨h1, h2⟩ := h p List.mem_cons_self
    show (passAll ps (stepRow xs p)).getD n 0 = xs.getD n 0
    rw [passAll_last ps (stepRow xs p) n (by rw [stepRow_length]; exact hl) fun q hq => h q (List.mem_cons_of_mem _ hq), stepRow_get (by omega) (by omega)]
    split
    · rw [if_neg (by omega), if_neg (by omega)]
    · rfl
theorem rowsP_head : ∀ k : Nat, ∃ rest, rowsP (k + 2) = (List.replicate k 0 ++ [0, 0]) :: (List.replicate k 0 ++ [0, 1]) :: (List.replicate k 0 ++ [1, 0]) :: rest
  | 0 => ⟨_, rfl⟩
  | k + 1 => by
    obtain ⟨rest, e⟩ := rowsP_head k
    refine ⟨rest.map (fun r => 0 :: r) ++ (rowsP (k + 2)).map (fun r => 1 :: r), ?_⟩
    show (rowsP (k + 2)).map (fun r => 0 :: r) ++ (rowsP (k + 2)).map (fun r => 1 :: r) = _
    conv => lhs; arg 1; rw [e]
    rfl
theorem rep_get {k j : Nat} {a b : Int} : (List.replicate k 0 ++ [a, b]).getD j 0 = if j = k then a else if j = k + 1 then b else 0 := by
  rw [List.getD_eq_getElem?_getD, List.getElem?_append, List.length_replicate]
  by_cases c : j < k
  · rw [if_pos c, List.getElem?_replicate, if_pos c, if_neg (by omega), if_neg (by omega)]
    rfl
  · rw [if_neg c]
    by_cases c1 : j = k
    · rw [if_pos c1, c1, Nat.sub_self]
      rfl
    · rw [if_neg c1]
      by_cases c2 : j = k + 1
      · rw [if_pos c2, c2, Nat.add_sub_cancel_left]
        rfl
      · rw [if_neg c2]
        obtain ⟨n, hn⟩ : ∃ n, j - k = n + 2 := ⟨j - k - 2, by omega⟩
        rw [hn]
        rfl
theorem rep_len {k : Nat} {a b : Int} : (List.replicate k 0 ++ [a, b]).length = k + 2 := by
  rw [List.length_append, List.length_replicate]
  rfl
theorem rep_rising {k : Nat} {b : Int} (hb : 0 ≤ b) : Rising (List.replicate k 0 ++ [0, b]) := rising_of_steps fun j hj => by
  rw [rep_len] at hj
  rw [rep_get, rep_get]
  split <;> split <;> (try split) <;> omega
theorem rep_pass {k : Nat} {b : Int} {ps : List Post} (hn : Net (k + 1) ps) : passAll ps (List.replicate k 0 ++ [0, b]) = List.replicate k 0 ++ [0, b] := by
  refine passAll_zeros ps _ (fun p hp => by rw [rep_len]; have := hn p hp; omega) fun p hp => ?_
  obtain ⟨h1, h2⟩ := hn p hp
  rw [rep_get, rep_get]
  split <;> split <;> (try split) <;> omega
theorem wide_bad {k : Nat} {ps : List Post} (hn : Net (k + 1) ps) : firstBad (k + 2) ps = some (List.replicate k 0 ++ [1, 0]) := by
  obtain ⟨rest, e⟩ := rowsP_head k
  unfold firstBad
  have b1 : badB ps (List.replicate k 0 ++ [0, 0]) = false := by
    unfold badB
    rw [rep_pass hn, decide_eq_true (rep_rising (Int.le_refl 0))]
    rfl
  have b2 : badB ps (List.replicate k 0 ++ [0, 1]) = false := by
    unfold badB
    rw [rep_pass hn, decide_eq_true (rep_rising (by decide))]
    rfl
  have b3 : badB ps (List.replicate k 0 ++ [1, 0]) = true := by
    unfold badB
    have hl : (List.replicate k (0 : Int) ++ [1, 0]).length = k + 1 + 1 := rep_len
    have last := passAll_last ps (List.replicate k 0 ++ [1, 0]) (k + 1) hl hn
    rw [rep_get, if_neg (by omega), if_pos rfl] at last
    have perm := passAll_perm ps (List.replicate k 0 ++ [1, 0]) (fun p hp => by rw [hl]; have := hn p hp; omega)
    have one : (1 : Int) ∈ passAll ps (List.replicate k 0 ++ [1, 0]) := perm.mem_iff.mpr (List.mem_append_right _ (by simp))
    have nr : ¬ Rising (passAll ps (List.replicate k 0 ++ [1, 0])) := fun r => by
      obtain ⟨i, hi, he⟩ := List.mem_iff_getElem.mp one
      have hlen : (passAll ps (List.replicate k 0 ++ [1, 0])).length = k + 2 := by rw [passAll_length, rep_len]
      have hlast : (passAll ps (List.replicate k 0 ++ [1, 0]))[k + 1] = 0 := by
        rw [List.getD_eq_getElem?_getD, List.getElem?_eq_getElem (by omega)] at last
        exact last
      by_cases c : i = k + 1
      · subst c
        omega
      · have z := (List.pairwise_iff_getElem.mp r) i (k + 1) hi (by omega) (by omega)
        rw [he, hlast] at z
        omega
    rw [decide_eq_false nr]
    rfl
  rw [e, List.find?_cons, b1, List.find?_cons, b2, List.find?_cons, b3]
/-! ### how the law's rows are sorted -/
structure SortIx (w : Nat) (ix : List Nat) : Prop where
  ok : kasOk (ltRows (rowsL w)) (2 ^ w) (PySem.W.kas_sort (2 ^ w)) = true
  ev : (kasEval (ltRows (rowsL w)) (PySem.W.kas_sort (2 ^ w))).toList = ix
  ln : ix.length = 2 ^ w
  lt : ∀ i ∈ ix, i < 2 ^ w
  rows : ix.map (fun i => (rowsL w).getD i []) = rowsP w
theorem sort_ix1 : SortIx 1 [0, 1] := ⟨by decide +kernel, by decide +kernel, by decide +kernel, by decide +kernel, by decide +kernel⟩
theorem sort_ix2 : SortIx 2 [0, 2, 1, 3] := ⟨by decide +kernel, by decide +kernel, by decide +kernel, by decide +kernel, by decide +kernel⟩
theorem sort_ix3 : SortIx 3 [0, 4, 2, 6, 1, 5, 3, 7] := ⟨by decide +kernel, by decide +kernel, by decide +kernel, by decide +kernel, by decide +kernel⟩
theorem sort_ix4 : SortIx 4 [0, 8, 4, 12, 2, 10, 6, 14, 1, 9, 5, 13, 3, 11, 7, 15] := ⟨by decide +kernel, by decide +kernel, by decide +kernel, by decide +kernel, by decide +kernel⟩
theorem sort_ix5 : SortIx 5 [0, 16, 8, 24, 4, 20, 12, 28, 2, 18, 10, 26, 6, 22, 14, 30, 1, 17, 9, 25, 5, 21, 13, 29, 3, 19, 11, 27, 7, 23, 15, 31] := ⟨by decide +kernel, by decide +kernel, by decide +kernel, by decide +kernel, by decide +kernel⟩
theorem sort_ix {w : Nat} (h1 : 1 ≤ w) (h2 : w ≤ 5) : ∃ ix, SortIx w ix := by
  have h : w = 1 ∨ w = 2 ∨ w = 3 ∨ w = 4 ∨ w = 5 := by omega
  rcases h with rfl | rfl | rfl | rfl | rfl
  · exact ⟨_, sort_ix1⟩
  · exact ⟨_, sort_ix2⟩
  · exact ⟨_, sort_ix3⟩
  · exact ⟨_, sort_ix4⟩
  · exact ⟨_, sort_ix5⟩
theorem find_snoc {ps : List Post} {l : List (List Int)} {i : Nat} {r : List Int} (h : l[i]? = some r) (hp : (l.take i).find? (badB ps) = none) (hr : badB ps r = false) : (l.take (i + 1)).find? (badB ps) = none := by
  rw [take_snoc h, List.find?_append, hp, List.find?_cons, hr]
  rfl
theorem find_here {ps : List Post} {l : List (List Int)} {i : Nat} {r : List Int} (h : l[i]? = some r) (hp : (l.take i).find? (badB ps) = none) (hr : badB ps r = true) : l.find? (badB ps) = some r := by
  have e : l = l.take (i + 1) ++ l.drop (i + 1) := (List.take_append_drop (i + 1) l).symm
  rw [e, take_snoc h, List.find?_append, List.find?_append, hp, List.find?_cons, hr]
  rfl
theorem two_pow_le {i : Nat} (h : i ≤ 12) : 2 ^ i ≤ 4096 := Nat.le_trans (Nat.pow_le_pow_right (by decide) h) (by decide)
theorem Lists.app {H : Hp} {rs qs : List Addr} {as bs : List (List Int)} (h : Lists H rs as) (k : Lists H qs bs) : Lists H (rs ++ qs) (as ++ bs) := by
  refine ⟨by rw [List.length_append, List.length_append, h.1, k.1], fun i r row a b => ?_⟩
  rw [List.getElem?_append] at a b
  by_cases c : i < rs.length
  · rw [if_pos c] at a
    rw [if_pos (h.1 ▸ c)] at b
    exact h.2 i r row a b
  · rw [if_neg c] at a
    rw [if_neg (h.1 ▸ c), ← h.1] at b
    exact k.2 _ r row a b
end PN

namespace L2
open PySem PySem.Spec PyProof.Rows
/-! ### a comprehension of one clause with one test -/
theorem lcI_loop {prog : Program} {w : World} {A : Around} {R : Result → Shared → Prop} {s : Shared} {elt tg iter tst : Expr} {scope : Scope} {pos : Pos} {it acc : Value} {env : Env} (J : Nat → Shared → Prop)
    (turn : ∀ n s, J n s → wpAny (model prog w) A (pyNext it) (fun r s1 => match r with
      | none => R (.ok .next) s1
      | some v => wpAny (model prog w) A (letOwnedTupleGo tg it v) (fun _ s2 => wpAny (model prog w) A (assign tg env v) (fun _ s3 => wpAny (model prog w) A (isTrue tst env (eval tst env)) (fun b s6 => if b = true then wpAny (model prog w) A (eval elt env) (fun x s4 =>
          wpAny (model prog w) A (call (.builtin "list.append") [acc, x]) (fun _ s5 => ∃ m, m < n ∧ J m s5) (fun _ _ => False) s4) (fun _ _ => False) s6 else ∃ m, m < n ∧ J m s6) (fun _ _ => False) s3) (fun _ _ => False) s2) (fun _ _ => False) s1) (fun _ _ => False) s)
    (n : Nat) (h : J n s) : codeAny (model prog w) A (.compLoop (.ListComp elt [⟨tg, iter, [tst], 0⟩] scope pos) 0 it acc env) R s := by
  refine codeAny_loop rfl J (fun n s hI => ?_) n h
  show wpAny _ A ((compTurn (.ListComp elt [⟨tg, iter, [tst], 0⟩] scope pos) 0 it acc env).onRaise (fun x => do noteFrame x env; theTreesLotGoes x)) _ _ s
  refine wpAny_noted ?_
  rw [compTurn_list]
  refine wpAny_bind (wpAny_standAt (wpAny_bind (wpAny_mono (turn n s hI) (fun r s1 h1 => ?_) fun _ _ z => z.elim)))
  cases r with
  | none => exact wpAny_pure h1
  | some v =>
    refine wpAny_bind (wpAny_mono h1 (fun _ s2 h2 => wpAny_bind (wpAny_mono h2 (fun _ s3 h3 => ?_) fun _ _ z => z.elim)) fun _ _ z => z.elim)
    refine wpAny_bind (wpAny_tests_one (wpAny_mono h3 (fun ok s6 h6 => ?_) fun _ _ z => z.elim))
    cases ok with
    | false => exact wpAny_pure ⟨rfl, h6⟩
    | true => exact wpAny_bind (wpAny_bind (wpAny_mono h6 (fun x s4 h4 => wpAny_bind (wpAny_mono h4 (fun _ s5 h5 => wpAny_pure (wpAny_pure ⟨rfl, h5⟩)) fun _ _ z => z.elim)) fun _ _ z => z.elim))
section
variable {X : Cx} {elt tg iter tst : Expr} {scope : Scope} {pos : Pos} {wi : TI} {g : TG} {tt : TT} {te : TE} {N : List Str} {own : Nat} {fr : List Nat} {cl : List (Str × Addr)}
/-- the reading: D is the new list; W the word by the turn and a measure, over the block's names -/
def tLcI (wi : TI) (g : TG) (tt : TT) (te : TE) (own : Nat) (fr : List Nat) : TE := fun σ H Q => wi σ H fun J H1 => ∀ D, H1 D = none → ∃ W : Nat → Nat → St → Hp → Prop, (∃ m, W 0 m (lcStart own fr σ) (upd H1 D (.lst []))) ∧ ∀ i m σ' H', W i m σ' H' →
  (J.stop i H' ∧ Q (.ref D) H') ∨ (J.go i H' ∧ ∀ x H2, J.yld i H' x H2 → g x σ' H2 fun σ3 H3 => tt σ3 H3 fun b H5 => if b = true then te σ3 H5 fun y H4 => ∃ ys, H4 D = some (.lst ys) ∧ ys.length < sizeLine ∧ ∃ m', m' < m ∧ W (i + 1) m' σ3 (upd H4 D (.lst (ys ++ [y]))) else ∃ m', m' < m ∧ W (i + 1) m' σ3 H5)
/-- what the block comes to: the comprehension's own objects apart -/
theorem lcI_block (hx : X.xe = fun _ _ => False) (hc : X.calm = true) (F : LcFree X scope cl N own fr) (hk : scope.kind = .function) (hcell : ∀ y ∈ scope.names, y.2 ≠ .cell)
    (hg : ∀ s H pins fp, PG (cxLc X scope N cl s H pins fp) tg g) (ht : ∀ s H pins fp, PT (cxLc X scope N cl s H pins fp) tst tt) (he : ∀ s H pins fp, PE (cxLc X scope N cl s H pins fp) elt te)
    {pins : List (Addr × Obj)} {σ : St} {Q : VK} {s2 : Shared} {itv : Value} {RR : Value → Addr → Result → Shared → Prop} {E : Value → Shared → Prop}
    (h : PIE X pins σ tg (fun J H1 => ∀ D, H1 D = none → ∃ W : Nat → Nat → St → Hp → Prop, (∃ m, W 0 m (lcStart own fr σ) (upd H1 D (.lst []))) ∧ ∀ i m σ' H', W i m σ' H' →
      (J.stop i H' ∧ Q (.ref D) H') ∨ (J.go i H' ∧ ∀ x H2, J.yld i H' x H2 → g x σ' H2 fun σ3 H3 => tt σ3 H3 fun b H5 => if b = true then te σ3 H5 fun y H4 => ∃ ys, H4 D = some (.lst ys) ∧ ys.length < sizeLine ∧ ∃ m', m' < m ∧ W (i + 1) m' σ3 (upd H4 D (.lst (ys ++ [y]))) else ∃ m', m' < m ∧ W (i + 1) m' σ3 H5)) itv s2)
    (hRR : ∀ (D C : Addr) (H' : Hp) (s' : Shared), Q (.ref D) H' → (∃ m, s'.heap.Ns C m) → H' C = none → C ≠ X.env.locals → (∀ x c, X.env.cells.lookup x = some c → c ≠ C) → (∀ p ∈ X.pn ++ pins, p.1 ≠ C) → X.s₀.heap.objs.size ≤ C →
      (∀ h', Heap.SameBut C s'.heap h' → Inv X pins σ H' { s' with heap := h' }) → RR (.ref D) C (.ok .next) s') :
    wpAny (model X.prog X.w) X.A (newList []) (fun acc s3 => wpAny (model X.prog X.w) X.A (newFunctionEnv scope X.env.globals cl [] X.env.qual none .none (some X.env)) (fun cenv s4 =>
      codeAny (model X.prog X.w) X.A (.compStart (.ListComp elt [⟨tg, iter, [tst], 0⟩] scope pos) 0 itv acc { cenv with scope := relabel scope X.env }) (RR acc cenv.locals) s4) E s3) E s2 := by
  obtain ⟨it, fp, tn, J, H2, e, I2, T, st2, f2, q⟩ := h
  subst e
  obtain ⟨W, ⟨m0, w0⟩, turn⟩ := q s2.heap.objs.size I2.fresh
  have I3 := I2.lnew (ys := []) (its := []) (t' := s2.toks) .nil (Nat.zero_le _)
  refine wpAny_newList (items := []) ?_ (Nat.zero_le _)
  generalize hH3 : upd H2 s2.heap.objs.size (.lst []) = H3 at w0 I3
  generalize hs3 : ({ s2 with heap := s2.heap.push { cls := .type "list", data := .seq ([] : List Value).toArray }, toks := s2.toks } : Shared) = s3 at I3
  have fp2 : ∀ b ∈ fp, b < s2.heap.objs.size := fun b hb => by
    obtain ⟨o, eo, _⟩ := T.obj _ _ st2 b hb
    exact Heap.lt_size eo
  have size3 : s3.heap.objs.size = s2.heap.objs.size + 1 := by rw [← hs3]; exact Heap.size_push ..
  have old3 : ∀ b o, s2.heap.get? b = some o → s3.heap.get? b = some o := fun b o z => by rw [← hs3]; exact Heap.get?_push_of_some _ z
  have st3 : tn 0 s3.heap := T.keep _ _ _ st2 fun b _ o z => old3 b o z
  have f3 : ∀ b ∈ fp, FpOk X pins H3 b := fun b hb => ⟨by rw [← hH3, upd_ne (Nat.ne_of_lt (fp2 b hb))]; exact (f2 b hb).1, (f2 b hb).2⟩
  refine wpAny_newFunctionEnv hcell (by intro y hy; simp at hy) (fun h4 hns4 hsb4 => ?_) hk
  have hC4 : ∀ b o, s3.heap.get? b = some o → h4.get? b = some o := fun b o z => (hsb4.2 b (Nat.ne_of_lt (Heap.lt_size z))).trans (Heap.get?_push_of_some _ z)
  have above : X.s₀.heap.objs.size ≤ s3.heap.objs.size := I3.sz
  have hok' : (cxLc X scope N cl s3 H3 pins fp).Ok := by
    refine ⟨I3.ok.mod, hk, I3.ok.glob, I3.ok.blt, Nat.le_refl _, ?_, ?_, ?_, I3.ok.hd, I3.ok.frames, .inl rfl, ?_, I3.bs, Nat.le_trans I3.ok.bsz I3.sz, ?_, ?_, I3.stack, I3.stkFree⟩
    · intro x y c a b
      exact I3.ok.inj x y c (F.clo x c a) (F.clo y c b)
    · intro x z
      exact F.has x z
    · intro x c z
      cases z
    · intro b hb
      refine ⟨Nat.ne_of_lt (show b < s3.heap.objs.size by rw [size3]; exact Nat.lt_succ_of_lt (fp2 b hb)), fun x c z => (f3 b hb).2.2.2.2.1 x c (F.clo x c z)⟩
    · intro b o z hb
      rcases (f3 b hb).2.2.2.1 with q | q
      · exact I3.ok.noex b o z q
      · exact absurd (Nat.lt_of_lt_of_le (Heap.lt_size z) I3.ok.bsz) (Nat.not_lt.mpr q)
    · intro b hb hf
      rcases List.mem_cons.mp (I3.stkSub b hf) with q | q
      · exact (f3 b hb).2.1 q
      · exact (f3 b hb).2.2.1 q
  have I4 : Inv (cxLc X scope N cl s3 H3 pins fp) [] (lcStart own fr σ) H3 { s3 with heap := h4, toks := s3.toks + ([] : List (Str × Value)).length } := by
    obtain ⟨m, nm, lk⟩ := I3.loc
    refine ⟨hok', rfl, I3.bare, Un.kept hC4, ⟨_, hns4, ?_⟩, ?_, I3.hok.fresh (Nat.le_refl _), ?_, ?_, I3.hok.kept hC4, ?_⟩
    · intro i x v hi hv _
      have hge : ¬ i < own := fun z => by
        unfold lcStart at hv
        rw [List.getElem?_append_left (by rw [List.length_replicate]; exact z), List.getElem?_replicate, if_pos z] at hv
        cases hv
      have hv' : (fr.map fun k => (σ[k]?).join)[i - own]? = some (some v) := by
        unfold lcStart at hv
        rw [List.getElem?_append_right (by rw [List.length_replicate]; omega), List.length_replicate] at hv
        exact hv
      rw [List.getElem?_map] at hv'
      cases ef : fr[i - own]? with
      | none => rw [ef] at hv'; cases hv'
      | some k =>
        rw [ef] at hv'
        have hσ : σ[k]? = some (some v) := by
          have z : (σ[k]?).join = some v := Option.some.inj hv'
          cases eσ : σ[k]? with
          | none => rw [eσ] at z; cases z
          | some y => rw [eσ] at z; exact congrArg some z
        obtain ⟨x', hx1, hx2, hx3, hx4, hx5, hx6⟩ := F.at_ _ _ ef
        have ex : x' = x := by
          rw [show own + (i - own) = i by omega] at hx1
          exact Option.some.inj (hx1.symm.trans hi)
        subst ex
        obtain ⟨u, ru, lu⟩ := lk k x' v hx2 hσ hx3
        refine ⟨u, ru, .inr ⟨hx6, ?_⟩⟩
        rcases lu with ⟨z, _⟩ | ⟨_, c, zc, zi⟩
        · exact absurd z hx4
        · obtain ⟨o, zo, zr⟩ := zi
          exact ⟨c, hx5 c zc, o, hC4 _ _ zo, zr⟩
    · intro x c z
      obtain ⟨v, o, zo, zr⟩ := I3.cell x c (F.clo x c z)
      exact ⟨v, o, hC4 _ _ zo, zr⟩
    · intro x c z
      exact I3.freeC x c (F.clo x c z)
    · intro p hp
      rw [List.append_nil] at hp
      obtain ⟨p1, p2, p3, p4, p5⟩ := I3.pin p hp
      refine ⟨hC4 _ _ p1, p2, Nat.ne_of_lt (Heap.lt_size p1), fun z => ?_, p5⟩
      rcases List.mem_cons.mp (I3.stkSub _ z) with q | q
      · exact p3 q
      · exact p4 q
    · show (lcStart own fr σ).length = N.length
      rw [F.len]
      simp [lcStart]
  have f4 : ∀ {H' : Hp}, (∀ b ∈ fp, H' b = none) → ∀ b ∈ fp, FpOk (cxLc X scope N cl s3 H3 pins fp) [] H' b := fun hn b hb =>
    ⟨hn b hb, (hok'.exf b hb).1, hok'.exfs b hb, .inl hb, (hok'.exf b hb).2, fun p hp => (f3 b hb).2.2.2.2.2 p (by rw [List.append_nil] at hp; exact hp)⟩
  have loop : ∀ s5 : Shared, s5 = { s3 with heap := h4, toks := s3.toks + ([] : List (Str × Value)).length } →
      codeAny (model X.prog X.w) X.A (.compLoop (.ListComp elt [⟨tg, iter, [tst], 0⟩] scope pos) 0 (.ref it) (.ref s2.heap.objs.size) (compEnvC scope cl s3.heap.objs.size X.env)) (RR (.ref s2.heap.objs.size) s3.heap.objs.size) s5 := by
    rintro s5 rfl
    refine lcI_loop (fun n s' => ∃ i σ' H', Inv (cxLc X scope N cl s3 H3 pins fp) [] σ' H' s' ∧ tn i s'.heap ∧ (∀ b ∈ fp, H' b = none) ∧ W i n σ' H') ?_ m0
      ⟨0, _, H3, I4, T.keep _ _ _ st3 fun b _ o z => hC4 b o z, fun b hb => (f3 b hb).1, w0⟩
    rintro n s' ⟨i, σ', H', I', st', fr', w'⟩
    rcases turn i n σ' H' w' with ⟨stop, qn⟩ | ⟨go, step⟩
    · refine thn (T.done (cxLc X scope N cl s3 H3 pins fp) rfl rfl rfl hc i [] s' σ' H' _ I' (f4 fr') st' stop) fun r s6 ⟨hr, I6⟩ => ?_
      subst hr
      refine hRR _ _ H' s6 qn ?_ I6.free ?_ ?_ ?_ above ?_
      · obtain ⟨m, nm, _⟩ := I6.loc
        exact ⟨m, nm⟩
      · exact Ne.symm (Nat.ne_of_lt I3.lt)
      · intro x c z
        obtain ⟨v, o, zo, _⟩ := I3.cell x c z
        exact Nat.ne_of_lt (Heap.lt_size zo)
      · intro p hp
        exact Nat.ne_of_lt (Heap.lt_size (I3.pin p hp).1)
      · intro h' sb
        have u : Un (frs X.stack) fp H3 H' s3.heap s6.heap := I6.base
        exact I3.call' (s' := { s6 with heap := h' }) (ch := fp) I6.os (u.off (Nat.le_refl _) sb) (I6.hok.off I6.free sb) I6.bare fun b hb => ⟨(f3 b hb).2.2.2.1, (f3 b hb).2.1, (f3 b hb).2.2.2.2.1, (f3 b hb).2.2.2.2.2⟩
    · refine thn (T.item (cxLc X scope N cl s3 H3 pins fp) rfl rfl rfl hc i [] s' σ' H' _ I' (f4 fr') st' go) fun r s6 ⟨u, hr, h6⟩ => ?_
      subst hr
      refine thn h6 fun _ s7 ⟨x, H7, I7, r7, y7, st7, fr7⟩ => ?_
      have I7' := I7.pinned (f4 fr7) (T.obj _ _ st7)
      have gg := hg s3 H3 pins fp _ s7 σ' H7 x u _ I7' r7 (step x H7 y7)
      rw [show (cxLc X scope N cl s3 H3 pins fp).xe = fun _ _ => False from hx] at gg
      refine thn gg fun _ s8 ⟨σ8, H8, I8, q8⟩ => ?_
      have tt8 := ht s3 H3 pins fp _ s8 σ8 H8 _ I8 q8
      rw [show (cxLc X scope N cl s3 H3 pins fp).xe = fun _ _ => False from hx] at tt8
      refine thn tt8 fun bb s11 ⟨H11, I11, q11⟩ => ?_
      cases bb with
      | false =>
        rw [if_neg Bool.false_ne_true] at q11 ⊢
        obtain ⟨m', hm, w9⟩ := q11
        refine ⟨m', hm, i + 1, σ8, _, I11.unpinned (pins := []), ?_, ?_, w9⟩
        · exact T.keep _ _ _ st7 fun b hb o z => (I11.pin (b, o) (List.mem_append_right _ (List.mem_append_right _ (mem_pinsAt hb z)))).1
        · intro b hb
          obtain ⟨o, z, d⟩ := T.obj _ _ st7 b hb
          exact (I11.pin (b, o) (List.mem_append_right _ (List.mem_append_right _ (mem_pinsAt hb z)))).2.1
      | true =>
      rw [if_pos rfl] at q11 ⊢
      have ee := he s3 H3 pins fp _ s11 σ8 H11 _ I11 q11
      rw [show (cxLc X scope N cl s3 H3 pins fp).xe = fun _ _ => False from hx] at ee
      refine thn ee fun uy s9 ⟨y, H9, I9, r9, ys, e9, l9, m', hm, w9⟩ => ?_
      have aa := mt_append (X := cxLc X scope N cl s3 H3 pins fp) _ s9 σ8 H9 (.ref s2.heap.objs.size) [y] (.ref s2.heap.objs.size) [uy] (fun _ Hz => Hz = upd H9 s2.heap.objs.size (.lst (ys ++ [y]))) I9 rfl (.cons r9 .nil) ⟨_, ys, y, rfl, rfl, e9, l9, rfl⟩
      rw [show (cxLc X scope N cl s3 H3 pins fp).xe = fun _ _ => False from hx] at aa
      refine thn aa fun _ s10 ⟨v, H10, I10, _, e10⟩ => ?_
      subst e10
      refine ⟨m', hm, i + 1, σ8, _, I10.unpinned (pins := []), ?_, ?_, w9⟩
      · exact T.keep _ _ _ st7 fun b hb o z => (I10.pin (b, o) (List.mem_append_right _ (List.mem_append_right _ (mem_pinsAt hb z)))).1
      · intro b hb
        obtain ⟨o, z, d⟩ := T.obj _ _ st7 b hb
        exact (I10.pin (b, o) (List.mem_append_right _ (List.mem_append_right _ (mem_pinsAt hb z)))).2.1
  exact codeAny_compStart_list (loop _ rfl) (T.self _ 0 _ _ _ (T.keep _ _ _ st3 fun b _ o z => hC4 b o z) (loop _ rfl))
theorem pe_lcI (hx : X.xe = fun _ _ => False) (hc : X.calm = true) (hi : PI X tg iter wi) (hclos : closureFor scope X.env = pure cl) (F : LcFree X scope cl N own fr) (hk : scope.kind = .function) (hcell : ∀ y ∈ scope.names, y.2 ≠ .cell)
    (hnm : ∀ y ∈ scope.names, y.2 = .local → scope.names.lookup y.1 = some .local) (hg : ∀ s H pins fp, PG (cxLc X scope N cl s H pins fp) tg g) (ht : ∀ s H pins fp, PT (cxLc X scope N cl s H pins fp) tst tt) (he : ∀ s H pins fp, PE (cxLc X scope N cl s H pins fp) elt te)
    (hs : ∀ x, foldedSetIterable iter X.env x = pure x := by intro _; rfl) : PE X (.ListComp elt [⟨tg, iter, [tst], 0⟩] scope pos) (tLcI wi g tt te own fr) := by
  intro pins s σ H Q I h
  rw [eval_ListComp]
  refine wpAny_comprehension_free (use := none) rfl hs hclos hk hnm ?_
  refine thn (hi pins s σ H _ I h) fun v s1 h1 => thn h1 fun itv s2 h2 => ?_
  refine lcI_block (RR := fun acc C => compPost (model X.prog X.w) X.A X.xe none (EP X pins σ Q) acc C) hx hc F hk hcell hg ht he h2 ?_
  intro D C H' s' q hm _ _ _ _ _ back
  obtain ⟨m, nm⟩ := hm
  exact ⟨m, nm, fun h' sb => ⟨.ref D, H', back h' sb, rfl, q⟩⟩
/-- name = [..], the store ahead of the block's end -/
theorem ps_setLcI {i : Nat} {y : Str} {py spos : Pos} (hN : X.N.Nodup) (hiN : X.N[i]? = some y) (hy : Loc X.env.scope y) (hsw : swapsWith (.ListComp elt [⟨tg, iter, [tst], 0⟩] scope pos) (some (.Name y py)) spos.line X.env = pure true)
    (hx : X.xe = fun _ _ => False) (hc : X.calm = true) (hi : PI X tg iter wi) (hclos : closureFor scope X.env = pure cl) (F : LcFree X scope cl N own fr) (hk : scope.kind = .function) (hcell : ∀ y ∈ scope.names, y.2 ≠ .cell)
    (hnm : ∀ y ∈ scope.names, y.2 = .local → scope.names.lookup y.1 = some .local) (hg : ∀ s H pins fp, PG (cxLc X scope N cl s H pins fp) tg g) (ht : ∀ s H pins fp, PT (cxLc X scope N cl s H pins fp) tst tt) (he : ∀ s H pins fp, PE (cxLc X scope N cl s H pins fp) elt te)
    (hs : ∀ x, foldedSetIterable iter X.env x = pure x := by intro _; rfl) (hf : X.fn y = true ∨ X.env.scope.names.lookup y = some .local := by first | exact .inl rfl | exact .inr rfl | assumption) :
    PS X (.Assign [.Name y py] (.ListComp elt [⟨tg, iter, [tst], 0⟩] scope pos) spos) (tAsg (tLcI wi g tt te own fr) (gName i)) := by
  intro pins s σ H D I h
  rw [exec_Assign_Name_used _ _ _ _ hsw]
  refine wpAny_bind (wpAny_standAt (wpAny_bind ?_))
  show wpAny _ X.A (do let _ ← comprehension (.ListComp elt [⟨tg, iter, [tst], 0⟩] scope pos) scope X.env _ (newList []) false (eval iter X.env) (some (assign (.Name y py) X.env))) _ _ s
  refine wpAny_bind (wpAny_mono (wpAny_comprehension_free (use := some (assign (.Name y py) X.env)) (Q := fun _ s' => SP X pins D .next s') rfl hs hclos hk hnm ?_) (fun _ s' hq => wpAny_pure (wpAny_pure hq)) fun _ _ z => z)
  refine thn (hi pins s σ H _ I h) fun v s1 h1 => thn h1 fun itv s2 h2 => ?_
  refine lcI_block (Q := fun v H' => D.nx (σ.set i (some v)) H') (RR := fun acc C => compPost (model X.prog X.w) X.A X.xe (some (assign (.Name y py) X.env)) (fun _ s' => SP X pins D .next s') acc C) hx hc F hk hcell hg ht he h2 ?_
  intro L C H' s' q hm n1 n2 n3 n4 n5 back
  have I5 : Inv X pins σ H' s' := back s'.heap (Heap.SameBut.refl _ _)
  show wpAny _ X.A (assign (.Name y py) X.env (.ref L)) _ _ _
  refine wpAny_assign_Name (store_ok2 I5 hN hiN hy (v := .ref L) rfl (fun s6 I6 hsb => ?_) hf)
  obtain ⟨m, nm⟩ := hm
  obtain ⟨a, sb, ha⟩ := hsb
  have na : a ≠ C := by
    rcases ha with z | z
    · rw [z]; exact Ne.symm n2
    · exact n3 y a z
  exact ⟨m, nm.sameBut sb (Ne.symm na), fun h' sb' => ⟨_, H', I6.turned (t' := s6.toks) (fun b o hb e => (sb'.2 b hb).trans e) n1 (Ne.symm (Ne.symm n2)) (.inr n5) n3 n4, q⟩⟩
end

/-! ### a comprehension with a test, by a word over the turns -/
/-- behind a turn: the list grown by one or as it was, and the word -/
abbrev LcSkip (Pv : Nat → St → Hp → Prop) (n i : Nat) (σ : St) (H : Hp) : Prop := ∃ m', m' < n - i ∧ (m' = n - (i + 1) ∧ i + 1 ≤ n ∧ Pv (i + 1) σ H)
theorem LcSkip.mk {Pv : Nat → St → Hp → Prop} {n i : Nat} {σ : St} {H : Hp} (hi : i < n) (p : Pv (i + 1) σ H) : LcSkip Pv n i σ H := ⟨n - (i + 1), by omega, rfl, hi, p⟩
section
variable {g : TG} {tt : TT} {te : TE} {own : Nat} {fr : List Nat} {σ : St} {H : Hp} {R : Hp → Prop} {D : Addr}
theorem lcI_of {J : It} {n : Nat} (Pv : Nat → St → Hp → Prop) (h0 : Pv 0 (lcStart own fr σ) (upd H D (.lst []))) (hgo : ∀ i σ H, i < n → Pv i σ H → J.go i H)
    (hs : ∀ i x H2 σ H, i < n → Pv i σ H → J.yld i H x H2 → g x σ H2 fun σ3 H3 => tt σ3 H3 fun b H5 => if b = true then te σ3 H5 fun y H4 => LcEnd Pv D n i σ3 y H4 else LcSkip Pv n i σ3 H5) (hd : ∀ σ H, Pv n σ H → J.stop n H ∧ R H) :
    ∃ W : Nat → Nat → St → Hp → Prop, (∃ m, W 0 m (lcStart own fr σ) (upd H D (.lst []))) ∧ ∀ i m σ' H', W i m σ' H' →
      (J.stop i H' ∧ R H') ∨ (J.go i H' ∧ ∀ x H2, J.yld i H' x H2 → g x σ' H2 fun σ3 H3 => tt σ3 H3 fun b H5 => if b = true then te σ3 H5 fun y H4 => ∃ ys, H4 D = some (.lst ys) ∧ ys.length < sizeLine ∧ ∃ m', m' < m ∧ W (i + 1) m' σ3 (upd H4 D (.lst (ys ++ [y]))) else ∃ m', m' < m ∧ W (i + 1) m' σ3 H5) := by
  refine ⟨fun i m σ H => m = n - i ∧ i ≤ n ∧ Pv i σ H, ⟨n, by simp, Nat.zero_le _, h0⟩, ?_⟩
  rintro i m σ' H' ⟨rfl, hi, p⟩
  by_cases hlt : i < n
  · exact .inr ⟨hgo i σ' H' hlt p, fun x H2 y => hs i x H2 σ' H' hlt p y⟩
  · have e : i = n := by omega
    subst e
    exact .inl (hd σ' H' p)
theorem lcI_list {K : PySem.W.Frag} {a : Addr} {xs : List V} (Pv : Nat → St → Hp → Prop) (h0 : Pv 0 (lcStart own fr σ) (upd H D (.lst []))) (hl : ∀ i σ H, i ≤ xs.length → Pv i σ H → SqL K H a xs)
    (hs : ∀ i x σ H, xs[i]? = some x → Pv i σ H → g x σ H fun σ3 H3 => tt σ3 H3 fun b H5 => if b = true then te σ3 H5 fun y H4 => LcEnd Pv D xs.length i σ3 y H4 else LcSkip Pv xs.length i σ3 H5) (hd : ∀ σ H, Pv xs.length σ H → R H) :
    ∃ W : Nat → Nat → St → Hp → Prop, (∃ m, W 0 m (lcStart own fr σ) (upd H D (.lst []))) ∧ ∀ i m σ' H', W i m σ' H' →
      ((Itl K a).stop i H' ∧ R H') ∨ ((Itl K a).go i H' ∧ ∀ x H2, (Itl K a).yld i H' x H2 → g x σ' H2 fun σ3 H3 => tt σ3 H3 fun b H5 => if b = true then te σ3 H5 fun y H4 => ∃ ys, H4 D = some (.lst ys) ∧ ys.length < sizeLine ∧ ∃ m', m' < m ∧ W (i + 1) m' σ3 (upd H4 D (.lst (ys ++ [y]))) else ∃ m', m' < m ∧ W (i + 1) m' σ3 H5) := by
  refine lcI_of (n := xs.length) Pv h0 (fun i σ H hi p => ⟨xs, xs[i], hl i σ H (Nat.le_of_lt hi) p, by simp [hi]⟩) (fun i x H2 σ H hi p y => ?_) (fun σ H p => ⟨⟨xs, hl _ σ H (Nat.le_refl _) p, Nat.le_refl _⟩, hd σ H p⟩)
  obtain ⟨e, y⟩ := y
  subst e
  exact hs i x σ _ (y xs (hl i σ _ (Nat.le_of_lt hi) p)) p
theorem lcI_range {lo : Int} {n : Nat} (Pv : Nat → St → Hp → Prop) (h0 : Pv 0 (lcStart own fr σ) (upd H D (.lst [])))
    (hs : ∀ i σ H, i < n → Pv i σ H → g (.int (lo + i)) σ H fun σ3 H3 => tt σ3 H3 fun b H5 => if b = true then te σ3 H5 fun y H4 => LcEnd Pv D n i σ3 y H4 else LcSkip Pv n i σ3 H5) (hd : ∀ σ H, Pv n σ H → R H) :
    ∃ W : Nat → Nat → St → Hp → Prop, (∃ m, W 0 m (lcStart own fr σ) (upd H D (.lst []))) ∧ ∀ i m σ' H', W i m σ' H' →
      ((Itr lo n).stop i H' ∧ R H') ∨ ((Itr lo n).go i H' ∧ ∀ x H2, (Itr lo n).yld i H' x H2 → g x σ' H2 fun σ3 H3 => tt σ3 H3 fun b H5 => if b = true then te σ3 H5 fun y H4 => ∃ ys, H4 D = some (.lst ys) ∧ ys.length < sizeLine ∧ ∃ m', m' < m ∧ W (i + 1) m' σ3 (upd H4 D (.lst (ys ++ [y]))) else ∃ m', m' < m ∧ W (i + 1) m' σ3 H5) := by
  refine lcI_of (n := n) Pv h0 (fun i σ H hi p => hi) (fun i x H2 σ H hi p y => ?_) (fun σ H p => ⟨Nat.le_refl _, hd σ H p⟩)
  obtain ⟨e, y⟩ := y
  subst e y
  exact hs i σ _ hi p
end
/-- two names of the def -/
theorem LcFree.two {X : Cx} {scope : Scope} {N : List Str} {own k1 k2 : Nat} {x1 x2 : Str} {c1 c2 : Addr} (L : List (Str × NameKind)) (hL : (relabel scope X.env).names = L) (hN : N.length = own + 2) (hne : x1 ≠ x2) (hx1 : N[own]? = some x1) (hx2 : N[own + 1]? = some x2) (hk1 : X.N[k1]? = some x1) (hk2 : X.N[k2]? = some x2)
    (hv1 : X.env.scope.names.lookup x1 = some .cell) (hv2 : X.env.scope.names.lookup x2 = some .cell) (hc1 : X.env.cells.lookup x1 = some c1) (hc2 : X.env.cells.lookup x2 = some c2)
    (hr1 : L.lookup x1 = some .cell) (hr2 : L.lookup x2 = some .cell) (h : ∀ y ∈ L, (y.2 = .cell ∨ y.2 = .free) → y.1 = x1 ∨ y.1 = x2) : LcFree X scope [(x1, c1), (x2, c2)] N own [k1, k2] where
  len := hN
  at_ := fun j k' e => by
    have loc : ∀ x, X.env.scope.names.lookup x = some .cell → X.env.kindOf x ≠ some .local := fun x hv => by
      show X.env.scope.names.lookup x ≠ some .local
      rw [hv]
      intro z
      cases z
    match j, e with
    | 0, e =>
      cases e
      refine ⟨x1, hx1, hk1, .inr (.inl hv1), loc _ hv1, fun c' e' => ?_, .inl (by rw [hL]; exact hr1)⟩
      rw [hc1] at e'
      cases e'
      simp [List.lookup_cons]
    | 1, e =>
      cases e
      refine ⟨x2, hx2, hk2, .inr (.inl hv2), loc _ hv2, fun c' e' => ?_, .inl (by rw [hL]; exact hr2)⟩
      rw [hc2] at e'
      cases e'
      have z : (x2 == x1) = false := by simpa using hne.symm
      rw [List.lookup_cons, z]
      simp [List.lookup_cons]
    | j + 2, e => simp at e
  clo := fun y c' e => by
    have z := lookup_mem e
    rcases List.mem_cons.mp z with z | z
    · cases z
      exact hc1
    · rw [List.mem_singleton] at z
      cases z
      exact hc2
  has := fun y e => by
    rw [hL] at e
    have z : y = x1 ∨ y = x2 := by
      rcases e with e | e
      · exact h _ (lookup_mem e) (.inl rfl)
      · exact h _ (lookup_mem e) (.inr rfl)
    rcases z with z | z
    · subst z
      exact ⟨c1, by simp [List.lookup_cons]⟩
    · subst z
      have z : (y == x1) = false := by simpa using hne.symm
      exact ⟨c2, by rw [List.lookup_cons, z]; simp [List.lookup_cons]⟩
end L2

namespace L2
open PySem PySem.Spec PyProof.Rows PySem.W
/-! ### what the sort comes to, whatever the keys are -/
def ltR (r : Nat → Int) (i j : Nat) : Bool := decide (r i < r j)
def KP (r : Nat → Int) (n : Nat) {α : Type} (t : KasT α) (Q : α → Prop) : Prop := kasOk (ltR r) n t = true ∧ Q (kasEval (ltR r) t)
section
variable {r : Nat → Int} {n : Nat}
theorem KP.ret {α : Type} {a : α} {Q : α → Prop} (h : Q a) : KP r n (.ret a) Q := ⟨rfl, h⟩
theorem KP.ask {α : Type} {i j : Nat} {k : Bool → KasT α} {Q : α → Prop} (hi : i < n) (hj : j < n) (h1 : r i < r j → KP r n (k true) Q) (h2 : r j ≤ r i → KP r n (k false) Q) : KP r n (.ask i j k) Q := by
  have h : KP r n (k (ltR r i j)) Q := by
    by_cases c : r i < r j
    · rw [show ltR r i j = true from decide_eq_true c]
      exact h1 c
    · rw [show ltR r i j = false from decide_eq_false c]
      exact h2 (by omega)
  refine ⟨?_, h.2⟩
  show (decide (i < n) && decide (j < n) && kasOk (ltR r) n (k (ltR r i j))) = true
  rw [decide_eq_true hi, decide_eq_true hj, h.1]
  rfl
theorem kasEval_bind {α β : Type} {lt : Nat → Nat → Bool} {f : α → KasT β} : ∀ t : KasT α, kasEval lt (t.bind f) = kasEval lt (f (kasEval lt t))
  | .ret _ => rfl
  | .ask i j k => by
    show kasEval lt ((k (lt i j)).bind f) = kasEval lt (f (kasEval lt (k (lt i j))))
    exact kasEval_bind (k (lt i j))
theorem kasOk_bind {α β : Type} {lt : Nat → Nat → Bool} {f : α → KasT β} : ∀ t : KasT α, kasOk lt n t = true → kasOk lt n (f (kasEval lt t)) = true → kasOk lt n (t.bind f) = true
  | .ret _, _, h => h
  | .ask i j k, h1, h2 => by
    have h1' : (decide (i < n) && decide (j < n) && kasOk lt n (k (lt i j))) = true := h1
    rw [Bool.and_eq_true] at h1'
    show (decide (i < n) && decide (j < n) && kasOk lt n ((k (lt i j)).bind f)) = true
    rw [h1'.1, kasOk_bind (k (lt i j)) h1'.2 h2]
    rfl
theorem KP.bind {α β : Type} {t : KasT α} {f : α → KasT β} {Q : β → Prop} (h : KP r n t fun a => KP r n (f a) Q) : KP r n (t.bind f) Q :=
  ⟨kasOk_bind t h.1 h.2.1, by rw [kasEval_bind]; exact h.2.2⟩
theorem KP.mono {α : Type} {t : KasT α} {Q Q' : α → Prop} (h : KP r n t Q) (hq : ∀ a, Q a → Q' a) : KP r n t Q' := ⟨h.1, hq _ h.2⟩
def kp (r : Nat → Int) (p : Array Nat) (i : Nat) : Int := r (p.getD i 0)
def PmO (n : Nat) (p : Array Nat) : Prop := p.toList.Perm (List.range n)
theorem PmO.size {p : Array Nat} (h : PmO n p) : p.size = n := by
  have z := h.length_eq
  rw [List.length_range] at z
  exact z
theorem getD_at {p : Array Nat} {i : Nat} : p.getD i 0 = (p[i]?).getD 0 := by
  rw [Array.getD_eq_getD_getElem?]
theorem PmO.lt {p : Array Nat} (h : PmO n p) {i : Nat} (hi : i < n) : p.getD i 0 < n := by
  have hs := h.size
  have z : p.getD i 0 ∈ p.toList := by
    rw [getD_at, Array.getElem?_eq_getElem (by omega)]
    exact Array.getElem_mem_toList (by omega)
  exact List.mem_range.mp (h.mem_iff.mp z)
theorem PmO.rev {p : Array Nat} (h : PmO n p) (i j : Nat) : PmO n (kas_rev p i j) := (Array.perm_iff_toList_perm.mp (mirror_perm p i j ((j - i) / 2))).trans h
theorem PmO.bub {p : Array Nat} (h : PmO n p) (k d : Nat) : PmO n (bubble p k d) := (Array.perm_iff_toList_perm.mp (bubble_perm p k d)).trans h
theorem kp_rev {p : Array Nat} {i j : Nat} (hj : j ≤ p.size) (k : Nat) : kp r (kas_rev p i j) k = if i ≤ k ∧ k < j then kp r p (i + j - 1 - k) else kp r p k := by
  unfold kp kas_rev
  rw [getD_at, getElem?_mirror_all hj]
  by_cases c : i ≤ k ∧ k < j
  · rw [if_pos c, if_pos c, getD_at]
  · rw [if_neg c, if_neg c, getD_at]
theorem kp_bub {p : Array Nat} {src d : Nat} (hs : src < p.size) (hd : d ≤ src) (k : Nat) : kp r (bubble p src d) k = if k = src - d then kp r p src else if src - d < k ∧ k ≤ src then kp r p (k - 1) else kp r p k := by
  unfold kp
  rw [getD_at, getElem?_bubble hs d hd]
  by_cases c : k = src - d
  · rw [if_pos c, if_pos c, getD_at]
  · rw [if_neg c, if_neg c]
    by_cases c2 : src - d < k ∧ k ≤ src
    · rw [if_pos c2, if_pos c2, getD_at]
    · rw [if_neg c2, if_neg c2, getD_at]
def Up (r : Nat → Int) (p : Array Nat) (k : Nat) : Prop := ∀ i j, i ≤ j → j < k → kp r p i ≤ kp r p j
def Dn (r : Nat → Int) (p : Array Nat) (k : Nat) : Prop := ∀ i j, i ≤ j → j < k → kp r p j ≤ kp r p i
theorem Up.snoc {p : Array Nat} {k : Nat} (h : Up r p k) (h1 : 1 ≤ k) (hl : kp r p (k - 1) ≤ kp r p k) : Up r p (k + 1) := fun i j hi hj => by
  by_cases c : j < k
  · exact h i j hi c
  · have e : j = k := by omega
    subst e
    by_cases c2 : i = j
    · rw [c2]; exact Int.le_refl _
    · exact Int.le_trans (h i (j - 1) (by omega) (by omega)) hl
theorem Dn.snoc {p : Array Nat} {k : Nat} (h : Dn r p k) (h1 : 1 ≤ k) (hl : kp r p k ≤ kp r p (k - 1)) : Dn r p (k + 1) := fun i j hi hj => by
  by_cases c : j < k
  · exact h i j hi c
  · have e : j = k := by omega
    subst e
    by_cases c2 : i = j
    · rw [c2]; exact Int.le_refl _
    · exact Int.le_trans hl (h i (j - 1) (by omega) (by omega))
theorem kp_asc {p : Array Nat} (hp : PmO n p) : ∀ (f m : Nat), 1 ≤ m → m + f ≤ n → Up r p m → KP r n (kas_asc p f m) fun m' => m ≤ m' ∧ m' ≤ m + f ∧ Up r p m' ∧ (m' = m + f ∨ kp r p m' < kp r p (m' - 1))
  | 0, m, _, _, h => KP.ret ⟨Nat.le_refl _, Nat.le_refl _, h, .inl rfl⟩
  | f + 1, m, h1, hm, h => by
    refine KP.ask (hp.lt (by omega)) (hp.lt (by omega)) (fun c => ?_) (fun c => ?_)
    · exact KP.ret ⟨Nat.le_refl _, by omega, h, .inr c⟩
    · exact (kp_asc hp f (m + 1) (by omega) (by omega) (h.snoc h1 c)).mono fun m' ⟨a, b, c', d⟩ => ⟨by omega, by omega, c', by rcases d with d | d; exact .inl (by omega); exact .inr d⟩
/-- the last q + 1 of the first m are equal -/
def Eqs (r : Nat → Int) (p : Array Nat) (m q : Nat) : Prop := ∀ i, m - (q + 1) ≤ i → i < m → kp r p i = kp r p (m - 1)
theorem rev_eqs {p : Array Nat} {m q : Nat} (hm : m ≤ p.size) (h : Eqs r p m q) (k : Nat) : kp r (kas_rev p (m - (q + 1)) m) k = kp r p k := by
  rw [kp_rev hm]
  split
  · rw [h _ (by omega) (by omega), h k (by omega) (by omega)]
  · rfl
theorem kp_desc : ∀ (f : Nat) (p : Array Nat) (m q : Nat), PmO n p → 1 ≤ m → m + f ≤ n → Dn r p m → Eqs r p m q → q + 1 ≤ m → KP r n (kas_desc f p m q) fun x => PmO n x.1 ∧ m ≤ x.2.1 ∧ x.2.1 ≤ n ∧ Dn r x.1 x.2.1 ∧ Eqs r x.1 x.2.1 x.2.2
  | 0, p, m, q, hp, h1, hm, hd, he, hq => KP.ret ⟨hp, Nat.le_refl _, by omega, hd, he⟩
  | f + 1, p, m, q, hp, h1, hm, hd, he, hq => by
    have hs := hp.size
    refine KP.ask (hp.lt (by omega)) (hp.lt (by omega)) (fun c => ?_) (fun c => ?_)
    · have c' : kp r p m < kp r p (m - 1) := c
      show KP r n (if true = true then (if q > 0 then kas_desc f (kas_rev p (m - (q + 1)) m) (m + 1) 0 else kas_desc f p (m + 1) 0) else _) _
      rw [if_pos rfl]
      by_cases z : q > 0
      · rw [if_pos z]
        have ek := rev_eqs (p := p) (by omega) he
        have hd' : Dn r (kas_rev p (m - (q + 1)) m) m := fun i j a b => by rw [ek, ek]; exact hd i j a b
        refine (kp_desc f (kas_rev p (m - (q + 1)) m) (m + 1) 0 (hp.rev _ _) (by omega) (by omega) (hd'.snoc h1 (by rw [ek, ek]; omega)) (fun i a b => ?_) (by omega)).mono fun x ⟨a, b, c, d, e⟩ => ⟨a, by omega, c, d, e⟩
        rw [show i = m + 1 - 1 by omega]
      · rw [if_neg z]
        refine (kp_desc f p (m + 1) 0 hp (by omega) (by omega) (hd.snoc h1 (by omega)) (fun i a b => ?_) (by omega)).mono fun x ⟨a, b, c, d, e⟩ => ⟨a, by omega, c, d, e⟩
        rw [show i = m + 1 - 1 by omega]
    · have c' : kp r p (m - 1) ≤ kp r p m := c
      refine KP.ask (hp.lt (by omega)) (hp.lt (by omega)) (fun c2 => ?_) (fun c2 => ?_)
      · exact KP.ret ⟨hp, Nat.le_refl _, (by show m ≤ n; omega), hd, he⟩
      · have c2' : kp r p m ≤ kp r p (m - 1) := c2
        refine (kp_desc f p (m + 1) (q + 1) hp (by omega) (by omega) (hd.snoc h1 c2') (fun i a b => ?_) (by omega)).mono fun x ⟨a, b, c, d, e⟩ => ⟨a, by omega, c, d, e⟩
        rw [show m + 1 - 1 = m by omega]
        by_cases z : i = m
        · rw [z]
        · rw [he i (by omega) (by omega)]
          omega
theorem kp_tail3 {p : Array Nat} {m : Nat} (hp : PmO n p) (h1 : 1 ≤ m) (hm : m ≤ n) (hd : Dn r p m) : KP r n (kas_tail3 m n p) fun x => PmO n x.2 ∧ 1 ≤ x.1 ∧ x.1 ≤ n ∧ Up r x.2 x.1 := by
  have hs := hp.size
  have up : Up r (kas_rev p 0 m) m := fun i j a b => by
    rw [kp_rev (by omega), kp_rev (by omega), if_pos (by omega), if_pos (by omega)]
    exact hd _ _ (by omega) (by omega)
  refine KP.bind ((kp_asc (hp.rev 0 m) (n - m) m h1 (by omega) up).mono fun m' ⟨a, b, c, _⟩ => KP.ret ⟨hp.rev 0 m, by show 1 ≤ m'; omega, by show m' ≤ n; omega, c⟩)
theorem kp_descPart {p : Array Nat} {m : Nat} (hp : PmO n p) (h1 : 1 ≤ m) (hm : m + 1 ≤ n) (hd : Dn r p (m + 1)) : KP r n (kas_descPart m n p) fun x => PmO n x.2 ∧ 1 ≤ x.1 ∧ x.1 ≤ n ∧ Up r x.2 x.1 := by
  refine KP.bind ((kp_desc (n - (m + 1)) p (m + 1) 0 hp (by omega) (by omega) hd (fun i a b => by rw [show i = m + 1 - 1 by omega]) (by omega)).mono fun x ⟨a, b, c, d, e⟩ => ?_)
  have hs := a.size
  by_cases z : x.2.2 > 0
  · rw [if_pos z]
    have ek := rev_eqs (p := x.1) (m := x.2.1) (q := x.2.2) (by omega) e
    exact kp_tail3 (a.rev _ _) (by omega) c fun i j u v => by rw [ek, ek]; exact d i j u v
  · rw [if_neg z]
    exact kp_tail3 a (by omega) c d
theorem kp_count {p : Array Nat} (hp : PmO n p) (h1 : 1 ≤ n) : KP r n (kas_count n p) fun x => PmO n x.2 ∧ 1 ≤ x.1 ∧ x.1 ≤ n ∧ Up r x.2 x.1 := by
  have hs := hp.size
  refine KP.bind ((kp_asc hp (n - 1) 1 (Nat.le_refl _) (by omega) fun i j a b => by rw [show i = j by omega]; exact Int.le_refl _).mono fun m ⟨a, b, c, d⟩ => ?_)
  by_cases z : m = n
  · rw [if_pos (by rw [z]; exact beq_self_eq_true n)]
    exact KP.ret ⟨hp, by show 1 ≤ m; omega, by show m ≤ n; omega, c⟩
  · rw [if_neg (by simpa using z)]
    have d' : kp r p m < kp r p (m - 1) := by
      rcases d with d | d
      · omega
      · exact d
    by_cases y : m > 1
    · rw [if_pos y]
      refine KP.ask (hp.lt (by omega)) (hp.lt (by omega)) (fun c2 => ?_) (fun c2 => ?_)
      · exact KP.ret ⟨hp, by show 1 ≤ m; omega, by show m ≤ n; omega, c⟩
      · have c2' : kp r p (m - 1) ≤ kp r p 0 := c2
        have eqs : Eqs r p m (m - 1) := fun i u v => by
          have a1 := c 0 i (by omega) (by omega)
          have a2 := c i (m - 1) (by omega) (by omega)
          omega
        have ek : ∀ k, kp r (kas_rev p 0 m) k = kp r p k := fun k => by
          have z := rev_eqs (p := p) (m := m) (q := m - 1) (by omega) eqs k
          rw [show m - (m - 1 + 1) = 0 by omega] at z
          exact z
        refine kp_descPart (hp.rev 0 m) (by omega) (by omega) fun i j u v => ?_
        rw [ek, ek]
        by_cases cj : j < m
        · rw [eqs i (by omega) (by omega), eqs j (by omega) cj]
          exact Int.le_refl _
        · rw [show j = m by omega]
          by_cases ci : i < m
          · rw [eqs i (by omega) ci]
            omega
          · rw [show i = m by omega]
            exact Int.le_refl _
    · rw [if_neg y]
      have em : m = 1 := by omega
      subst em
      refine kp_descPart hp (by omega) (by omega) fun i j u v => ?_
      by_cases ci : i = j
      · rw [ci]; exact Int.le_refl _
      · rw [show j = 1 by omega, show i = 0 by omega]
        have d'' : kp r p 1 < kp r p 0 := d'
        omega
theorem kp_place {p : Array Nat} (hp : PmO n p) {k : Nat} (hk : k < n) (hu : Up r p k) : ∀ (f a b : Nat), a ≤ b → b ≤ k → b - a ≤ f → (∀ i, i < a → kp r p i ≤ kp r p k) → (∀ i, b ≤ i → i < k → kp r p k < kp r p i) →
    KP r n (kas_place p k f a b) fun l => l ≤ k ∧ (∀ i, i < l → kp r p i ≤ kp r p k) ∧ ∀ i, l ≤ i → i < k → kp r p k < kp r p i
  | 0, a, b, h1, h2, h3, ha, hb => KP.ret ⟨by omega, ha, fun i u v => hb i (by omega) v⟩
  | f + 1, a, b, h1, h2, h3, ha, hb => by
    show KP r n (if a ≥ b then .ret a else .ask (p.getD k 0) (p.getD ((a + b) / 2) 0) fun c => if c = true then kas_place p k f a ((a + b) / 2) else kas_place p k f ((a + b) / 2 + 1) b) _
    by_cases c : a ≥ b
    · rw [if_pos c]
      exact KP.ret ⟨by omega, ha, fun i u v => hb i (by omega) v⟩
    · rw [if_neg c]
      refine KP.ask (hp.lt hk) (hp.lt (by omega)) (fun z => ?_) (fun z => ?_)
      · have z' : kp r p k < kp r p ((a + b) / 2) := z
        exact kp_place hp hk hu f a ((a + b) / 2) (by omega) (by omega) (by omega) ha fun i u v => by
          have := hu ((a + b) / 2) i u v
          omega
      · have z' : kp r p ((a + b) / 2) ≤ kp r p k := z
        exact kp_place hp hk hu f ((a + b) / 2 + 1) b (by omega) (by omega) (by omega) (fun i u => by
          have := hu i ((a + b) / 2) (by omega) (by omega)
          omega) hb
theorem kp_bin : ∀ (f : Nat) (p : Array Nat) (k : Nat), PmO n p → k + f = n → Up r p k → KP r n (kas_bin f p k) fun x => PmO n x ∧ Up r x n
  | 0, p, k, hp, hk, hu => KP.ret ⟨hp, by rw [← hk]; exact hu⟩
  | f + 1, p, k, hp, hk, hu => by
    have hs := hp.size
    refine KP.bind ((kp_place hp (by omega) hu k 0 k (by omega) (by omega) (by omega) (fun i u => by omega) (fun i u v => by omega)).mono fun l ⟨a, b, c⟩ => ?_)
    refine kp_bin f (bubble p k (k - l)) (k + 1) (hp.bub _ _) (by omega) fun i j u v => ?_
    have e : k - (k - l) = l := by omega
    rw [kp_bub (by omega) (by omega), kp_bub (by omega) (by omega), e]
    by_cases ci : i = l
    · rw [if_pos ci]
      by_cases cj : j = l
      · rw [if_pos cj]; exact Int.le_refl _
      · rw [if_neg cj, if_pos (by omega)]
        have := c (j - 1) (by omega) (by omega)
        omega
    · rw [if_neg ci]
      by_cases ci2 : l < i ∧ i ≤ k
      · rw [if_pos ci2, if_neg (by omega), if_pos (by omega)]
        exact hu _ _ (by omega) (by omega)
      · rw [if_neg ci2]
        by_cases cj : j = l
        · rw [if_pos cj]
          exact b i (by omega)
        · rw [if_neg cj]
          by_cases cj2 : l < j ∧ j ≤ k
          · rw [if_pos cj2]
            exact hu _ _ (by omega) (by omega)
          · rw [if_neg cj2]
            exact hu _ _ u (by omega)
/-- the sort puts the keys in order -/
theorem kp_sort (h1 : 1 ≤ n) : KP r n (kas_sort n) fun x => PmO n x ∧ Up r x n := by
  have h0 : PmO n (List.toArray (List.range n)) := by
    unfold PmO
    exact List.Perm.refl _
  refine KP.bind ((kp_count h0 h1).mono fun x ⟨a, b, c, d⟩ => ?_)
  by_cases z : x.1 < n
  · rw [if_pos z]
    have e : max x.1 1 = x.1 := by omega
    rw [e]
    exact kp_bin _ _ _ a (by omega) d
  · rw [if_neg z]
    have e : x.1 = n := by omega
    rw [e] at d
    exact KP.ret ⟨a, d⟩
end
end L2

namespace L2
open PySem PySem.Spec PyProof.Rows
/-! ### sorted of a list of pairs of ints -/
section
variable {prog : Program} {w : World} {A : Around} {E : Value → Shared → Prop} {s : Shared}
/-- the heap while a list at l is being sorted: emptied, its items held in a tuple, an empty list beside -/
def heldAt (h : Heap) (l : Addr) (vs : List Value) : Heap := ((h.update l (Obj.mapSeq fun _ => #[])).push (seqObj "tuple" vs.toArray 0)).push (seqObj "list" #[] 0)
theorem held_get {h : Heap} {l : Addr} {vs : List Value} {n : Nat} (hl : h.get? l = some (seqObj "list" vs.toArray n)) : ∃ e, (h.update l (Obj.mapSeq fun _ => #[])).get? l = some (seqObj "list" #[] e) ∧ (heldAt h l vs).get? l = some (seqObj "list" #[] e) := by
  have lt := Heap.lt_size hl
  have up := get?_update_seq hl fun _ => #[]
  refine ⟨_, up, ?_⟩
  unfold heldAt
  have n1 : l ≠ ((h.update l (Obj.mapSeq fun _ => #[])).push (seqObj "tuple" vs.toArray 0)).objs.size := by
    rw [size_push', Heap.size_update]
    exact Nat.ne_of_lt (Nat.lt_succ_of_lt lt)
  have n2 : l ≠ (h.update l (Obj.mapSeq fun _ => #[])).objs.size := by
    rw [Heap.size_update]
    exact Nat.ne_of_lt lt
  rw [Heap.get?_push_ne _ _ _ n1, Heap.get?_push_ne _ _ _ n2, up]
theorem few {vs : List Value} (h : vs.length < 2) : vs.length ≤ sizeLine ∧ vs.toArray.size < 2 ∧ vs.toArray.size ≤ sizeLine := by
  have z : 2 ≤ sizeLine := by decide
  refine ⟨by omega, ?_, ?_⟩ <;> rw [List.size_toArray] <;> omega
/-- fewer than two items: nothing is compared -/
theorem sort_few {l : Addr} {vs : List Value} {n : Nat} {P : PySem.Fin → Shared → Prop} (hl : s.heap.get? l = some (seqObj "list" vs.toArray n)) (h2 : vs.length < 2)
    (fin : P (.done (.ret .none)) { s with heap := sortedHeap s.heap l vs vs.toArray }) : wpAny (model prog w) A (Builtin.«list.sort» ⟨[.ref l], []⟩) P E s := by
  obtain ⟨z1, z2, z3⟩ := few h2
  obtain ⟨e, g1, g2⟩ := held_get hl
  have out : (vs.toArray.zip vs.toArray).map (·.2) = vs.toArray := by
    match vs, h2 with
    | [], _ => simp
    | [v], _ => simp
  rw [list_sort_plain]
  refine wpAny_bind (listItems_at hl rfl (wpAny_bind (listUpdate_at hl rfl (wpAny_bind (seqEpoch_at g1 rfl (wpAny_bind (wpAny_newTuple (wpAny_bind (wpAny_newList (wpAny_holding ?_))) z1)))) (hsz := z3))))
  show wpAny _ A _ P E { s with heap := heldAt s.heap l vs }
  dsimp only
  rw [if_pos z2, if_pos z2]
  refine wpAny_bind (wpAny_pure (?_ : wpAny _ A _ P E { s with heap := heldAt s.heap l vs }))
  rw [StateT.run_pure]
  refine wpAny_bind (wpAny_pure (?_ : wpAny _ A _ P E { s with heap := heldAt s.heap l vs }))
  dsimp only
  rw [show (arrOf (SortSt.mk' general' (vs.toArray.zip vs.toArray) #[] 7 none)).map (·.2) = vs.toArray from out]
  refine wpAny_bind (seqEpoch_at g2 rfl (wpAny_bind (listUpdate_at g2 rfl ?_ (hsz2 := Nat.le_succ_of_le z3))))
  rw [bne_self_eq_false]
  exact wpAny_pure fin
/-- the heap with the copy that sorted makes, at the place behind the next -/
def copied (h : Heap) (vs : List Value) : Heap := ((h.push (seqObj "list" #[] 0)).update h.objs.size (Obj.mapSeq (· ++ vs.toArray))).push (seqObj "list" vs.toArray 0)
theorem copied_size (h : Heap) (vs : List Value) : ((h.push (seqObj "list" #[] 0)).update h.objs.size (Obj.mapSeq (· ++ vs.toArray))).objs.size = h.objs.size + 1 := (Heap.size_update ..).trans (size_push' ..)
theorem copied_get (h : Heap) (vs : List Value) : (copied h vs).get? (h.objs.size + 1) = some (seqObj "list" vs.toArray 0) := by
  have z := Heap.get?_push_size ((h.push (seqObj "list" #[] 0)).update h.objs.size (Obj.mapSeq (· ++ vs.toArray))) (o := seqObj "list" vs.toArray 0) rfl
  rw [copied_size] at z
  exact z
theorem sorted_few {l : Addr} {vs : List Value} {Q : Value → Shared → Prop} (hl : s.heap.IsList l vs.toArray) (h2 : vs.length < 2)
    (fin : Q (.ref (s.heap.objs.size + 1)) { s with heap := sortedAll s.heap vs vs.toArray }) : wpAny (model prog w) A (call (.builtin "sorted") [.ref l]) Q E s := by
  obtain ⟨z1, _, z3⟩ := few h2
  refine Calls.call_function_entry kind_sorted plain_sorted entry_sorted (args_sorted1 (.ref l)) ?_
  rw [Builtin.«sorted»]
  refine wpAny_bind (m := checkCount "sorted" 1 1 _) (wpAny_pure (wpAny_bind (collect_list hl (wpAny_bind (wpAny_newList ?_ z1)) z3)))
  show wpAny _ _ _ _ _ { s with heap := copied s.heap vs }
  rw [copied_size]
  have g := copied_get s.heap vs
  exact wpAny_bind (wpAny_holding (wpAny_call_entry slot_list_sort ⟨_, g, rfl⟩ entry_list_sort (sort_few g h2 ⟨_, rfl, wpAny_pure ⟨_, rfl, fin⟩⟩) (args_list_sort (.ref (s.heap.objs.size + 1)))))
theorem key_lt_pairs {x y : Addr} {ox oy : Obj} {a1 a2 b1 b2 : Int} {t1 t2 u1 u2 : Tok} {n k : Nat} {Q : Bool → Shared → Prop} (hx : s.heap.get? x = some ox) (dx : ox.data = .seq #[.int a1 t1, .int a2 t2] n) (hy : s.heap.get? y = some oy) (dy : oy.data = .seq #[.int b1 u1, .int b2 u2] k)
    (h : Q (decide (a1 < b1 ∨ a1 = b1 ∧ a2 < b2)) s) : wpAny (model prog w) A (keyLt' (tuples' true) (.ref x) (.ref y)) Q E s := by
  refine PySem.W.kat_lt hx dx hy dy (PySem.W.kat_cons (wpAny_eqBool_int (PySem.W.kat_go (fun e => PySem.W.kat_yes (PySem.W.kat_cons (wpAny_eqBool_int (PySem.W.kat_go (fun e2 => PySem.W.kat_yes (PySem.W.kat_nil ?_)) (fun e2 => PySem.W.kat_no (PySem.W.kat_one _ _ (lt_int ?_)))))) ) (fun e => PySem.W.kat_no (oneLt_int ?_)))))
  · have e' : a1 = b1 := by simpa using e
    have e2' : a2 = b2 := by simpa using e2
    have z : decide (a1 < b1 ∨ a1 = b1 ∧ a2 < b2) = false := decide_eq_false (by omega)
    rw [z] at h
    exact h
  · have e' : a1 = b1 := by simpa using e
    have z : decide (a1 < b1 ∨ a1 = b1 ∧ a2 < b2) = decide (a2 < b2) := by
      by_cases c : a2 < b2
      · rw [decide_eq_true c, decide_eq_true (.inr ⟨e', c⟩)]
      · rw [decide_eq_false c, decide_eq_false (by omega)]
    rw [z] at h
    exact h
  · have e' : ¬ a1 = b1 := by simpa using e
    have z : decide (a1 < b1 ∨ a1 = b1 ∧ a2 < b2) = decide (a1 < b1) := by
      by_cases c : a1 < b1
      · rw [decide_eq_true c, decide_eq_true (.inl c)]
      · rw [decide_eq_false c, decide_eq_false (by omega)]
    rw [z] at h
    exact h
end
end L2
namespace PN
open PySem PySem.Spec PyProof.Rows L2
def leP (a b : Post) : Prop := a.1 < b.1 ∨ a.1 = b.1 ∧ a.2 ≤ b.2
/-- the tuple at a place, as the heap has it -/
def PairAt (h : Heap) (r : Addr) (p : Post) : Prop := ∃ ob t1 t2 n, h.get? r = some ob ∧ ob.cls = .type "tuple" ∧ ob.data = .seq #[.int (p.1 : Nat) t1, .int (p.2 : Nat) t2] n
theorem katTups_of {h : Heap} : ∀ (rs : List Addr) (ps : List Post), rs.length = ps.length → (∀ (i : Nat) r p, rs[i]? = some r → ps[i]? = some p → PairAt h r p) →
    ∃ fs, PySem.W.KatTups h (rs.map Value.ref) fs ∧ fs.length = rs.length ∧ ∀ v ∈ fs, ∃ (i : Int) (t : Tok), v = .int i t
  | [], [], _, _ => ⟨[], .nil, rfl, fun v hv => by cases hv⟩
  | [], _ :: _, h, _ => by simp at h
  | _ :: _, [], h, _ => by simp at h
  | r :: rs, p :: ps, hl, k => by
    obtain ⟨fs, a, b, c⟩ := katTups_of rs ps (by simpa using hl) fun i r' p' x y => k (i + 1) r' p' (by simpa using x) (by simpa using y)
    obtain ⟨ob, t1, t2, n, e1, e2, e3⟩ := k 0 r p rfl rfl
    refine ⟨.int (p.1 : Nat) t1 :: fs, PySem.W.KatTups.cons e1 e2 e3 rfl a, by rw [List.length_cons, List.length_cons, b], fun v hv => ?_⟩
    rcases List.mem_cons.mp hv with z | z
    · exact ⟨_, _, z⟩
    · exact c v z
theorem key_bound : ∀ ps : List Post, ∃ M : Nat, ∀ p ∈ ps, p.2 < M
  | [] => ⟨0, fun p hp => by cases hp⟩
  | q :: ps => by
    obtain ⟨M, h⟩ := key_bound ps
    refine ⟨q.2 + 1 + M, fun p hp => ?_⟩
    rcases List.mem_cons.mp hp with z | z
    · rw [z]; omega
    · have := h p z; omega
def keyM (M : Nat) (p : Post) : Int := ((p.1 * M + p.2 : Nat) : Int)
theorem keyM_lt {M : Nat} {p q : Post} (hp : p.2 < M) (hq : q.2 < M) : keyM M p < keyM M q ↔ (p.1 < q.1 ∨ p.1 = q.1 ∧ p.2 < q.2) := by
  unfold keyM
  rw [Int.ofNat_lt]
  constructor
  · intro h
    rcases Nat.lt_trichotomy p.1 q.1 with c | c | c
    · exact .inl c
    · rw [c] at h
      exact .inr ⟨c, by omega⟩
    · exfalso
      have z : (q.1 + 1) * M ≤ p.1 * M := Nat.mul_le_mul_right M c
      rw [Nat.add_mul, Nat.one_mul] at z
      omega
  · rintro (c | ⟨c, d⟩)
    · have z : (p.1 + 1) * M ≤ q.1 * M := Nat.mul_le_mul_right M c
      rw [Nat.add_mul, Nat.one_mul] at z
      omega
    · rw [c]
      omega
theorem map_getD_range {α : Type} (l : List α) (d : α) : (List.range l.length).map (fun i => l.getD i d) = l := by
  apply List.ext_getElem
  · rw [List.length_map, List.length_range]
  · intro i h1 h2
    rw [List.getElem_map, List.getElem_range, List.getD_eq_getElem?_getD, List.getElem?_eq_getElem h2]
    rfl
section
variable {X : Cx}
theorem call_sortedT {K : PySem.W.Frag} (hK : X.K = K) : CallR X (.builtin "sorted") (fun xs H Q => ∃ (p : Addr) (rs : List Addr) (ps : List Post), xs = [.ref p] ∧ SqL K H p (rs.map V.ref) ∧ Tups H rs ps ∧ rs.length < 64 ∧
    ∀ (l : Addr) (rs' : List Addr) (ps' : List Post), H l = none → Tups H rs' ps' → ps'.Perm ps → ps'.Pairwise leP → Q (.ref l) (upd H l (.lst (rs'.map V.ref)))) := by
  subst hK
  intro pins s σ H xs us Q I r h
  obtain ⟨p, rs, ps, rfl, hq, hT, h64, q⟩ := h
  obtain ⟨u, rfl, rx⟩ := vals1 r
  cases rx
  obtain ⟨its, r', pl, hz⟩ := I.list hq
  have hits : its = rs.map Value.ref := by
    clear hq pl hz h64 hT q
    have go : ∀ (rs : List Addr) (us : List Value), Vals (rs.map V.ref) us → us = rs.map Value.ref := by
      intro rs
      induction rs with
      | nil => intro us v; cases v; rfl
      | cons a rs ih =>
        intro us v
        cases v with
        | cons e t => cases e; rw [ih _ t]; rfl
    exact go rs its r'
  subst hits
  by_cases hshort : rs.length < 2
  · refine sorted_few pl.isList (by rw [List.length_map]; exact hshort) ?_
    obtain ⟨e, he⟩ := sortedAll_at s.heap (rs.map Value.ref) (rs.map Value.ref).toArray
    have hz' : (rs.map V.ref).length ≤ sizeLine := by
      rw [List.length_map]
      exact Nat.le_trans (Nat.le_of_lt h64) (by decide)
    refine ⟨.ref (s.heap.objs.size + 1), _, I.laid (t' := s.toks) (fun b o z => sortedAll_old z) (Nat.le_succ _) (show ObjOk X.prog X.w _ _ _ (.lst (rs.map V.ref)) from ⟨hz', rs.map Value.ref, e, r', ?_⟩), rfl, q _ rs ps (I.hok.fresh (Nat.le_succ _)) hT (List.Perm.refl _) ?_⟩
    · rw [he]
    · have hpl : ps.length < 2 := by rw [← hT.1]; exact hshort
      match ps, hpl with
      | [], _ => exact .nil
      | [x], _ => exact List.pairwise_singleton _ _
  · obtain ⟨m, F⟩ := I.fr
    have N := news_all (g := X.base) (h := s.heap) (L := X.env.locals)
    have inN : ∀ b o ob, H b = some o → s.heap.get? b = some ob → (b, ob) ∈ allNews X.base s.heap X.env.locals := fun b o ob hb ho => by
      refine mem_allNews (ne_of_none hb I.free) ?_ ho
      cases e : X.base.get? b with
      | none => rfl
      | some z => have := (I.bs b z e).2; rw [hb] at this; cases this
    have pairAt : ∀ (i : Nat) r p, rs[i]? = some r → ps[i]? = some p → PairAt s.heap r p ∧ H r = some (.tup [.int (p.1 : Nat), .int (p.2 : Nat)]) := fun i r p a b => by
      have hr := hT.2 i r p a b
      obtain ⟨_, its, v, ob, e1, e2, n, e3⟩ := (show ObjOk X.prog X.w H s.heap r (.tup [.int (p.1 : Nat), .int (p.2 : Nat)]) from I.hok _ _ hr)
      cases v with
      | cons v1 v =>
        cases v with
        | cons v2 v =>
          cases v
          obtain ⟨t1, rfl⟩ := v1
          obtain ⟨t2, rfl⟩ := v2
          exact ⟨⟨ob, t1, t2, n, e1, e2, e3⟩, hr⟩
    obtain ⟨M, hM⟩ := key_bound ps
    have hlen := hT.1
    have sorts := kp_sort (r := fun i => keyM M (ps.getD i (0, 0))) (n := rs.length) (by omega)
    refine PySem.W.kat_sorted F N pl.isList (by rw [List.length_map]; omega) (by rw [List.length_map]; exact h64) (fun D e1 h' F' N' hD => ?_)
    have here : ∀ (i : Nat) r p, rs[i]? = some r → ps[i]? = some p → PairAt h' r p := fun i r p a b => by
      obtain ⟨⟨ob, t1, t2, n, g1, g2, g3⟩, hr⟩ := pairAt i r p a b
      exact ⟨ob, t1, t2, n, (N' _ (List.mem_cons_of_mem _ (inN r _ _ hr g1))).1, g2, g3⟩
    obtain ⟨fs, kt, kl, ki⟩ := katTups_of rs ps hlen here
    refine PySem.W.kat_kind (T := .type "int") kt (by omega) (fun v hv => ?_) (by decide +kernel) ?_
    · obtain ⟨i, t, rfl⟩ := ki v hv
      exact PySem.W.Looks.of_pure rfl
    · rw [List.length_map]
      refine kas_by (lt := ltR fun i => keyM M (ps.getD i (0, 0))) (n := rs.length) (fun i j C hi hj hC => ?_) _ sorts.1 ?_
      · have e1 : rs[i]? = some (rs.getD i 0) := by rw [List.getD_eq_getElem?_getD, List.getElem?_eq_getElem hi]; rfl
        have e2 : rs[j]? = some (rs.getD j 0) := by rw [List.getD_eq_getElem?_getD, List.getElem?_eq_getElem hj]; rfl
        have f1 : ps[i]? = some (ps.getD i (0, 0)) := by rw [List.getD_eq_getElem?_getD, List.getElem?_eq_getElem (by omega)]; rfl
        have f2 : ps[j]? = some (ps.getD j (0, 0)) := by rw [List.getD_eq_getElem?_getD, List.getElem?_eq_getElem (by omega)]; rfl
        obtain ⟨o1, t1, t2, n1, g1, _, g3⟩ := here i _ _ e1 f1
        obtain ⟨o2, u1, u2, n2, k1, _, k3⟩ := here j _ _ e2 f2
        have a1 : (rs.map Value.ref).getD i Value.none = .ref (rs.getD i 0) := by
          rw [List.getD_eq_getElem?_getD, List.getElem?_map, e1]
          rfl
        have a2 : (rs.map Value.ref).getD j Value.none = .ref (rs.getD j 0) := by
          rw [List.getD_eq_getElem?_getD, List.getElem?_map, e2]
          rfl
        unfold PySem.W.kas_ask
        rw [a1, a2]
        refine key_lt_pairs g1 g3 k1 k3 ?_
        have z : ltR (fun i => keyM M (ps.getD i (0, 0))) i j = decide (((ps.getD i (0, 0)).1 : Int) < ((ps.getD j (0, 0)).1 : Int) ∨ ((ps.getD i (0, 0)).1 : Int) = ((ps.getD j (0, 0)).1 : Int) ∧ ((ps.getD i (0, 0)).2 : Int) < ((ps.getD j (0, 0)).2 : Int)) := by
          unfold ltR
          rw [Bool.eq_iff_iff, decide_eq_true_iff, decide_eq_true_iff, keyM_lt (hM _ (List.mem_of_getElem? f1)) (hM _ (List.mem_of_getElem? f2))]
          omega
        rw [z] at hC
        exact hC
      · obtain ⟨perm, up⟩ := sorts.2
        generalize kasEval (ltR fun i => keyM M (ps.getD i (0, 0))) (PySem.W.kas_sort rs.length) = arr at perm up ⊢
        have hlt : ∀ i ∈ arr.toList, i < rs.length := fun i hi => List.mem_range.mp (perm.mem_iff.mp hi)
        have hal : arr.toList.length = rs.length := by rw [perm.length_eq, List.length_range]
        have hDn : s.heap.get? D = none ∧ D ≠ X.env.locals := by
          have z := N' (D, _) List.mem_cons_self
          refine ⟨?_, z.2.1⟩
          cases e : s.heap.get? D with
          | none => rfl
          | some ob => exact absurd (hD _ (mem_allNews z.2.1 z.2.2 e)) (Nat.lt_irrefl _)
        have HDn : H D = none := by
          cases e : H D with
          | none => rfl
          | some o =>
            obtain ⟨ob, eo⟩ := (I.hok D o e).there
            rw [hDn.1] at eo
            cases eo
        refine PySem.W.KasFin.intro F' N' (.head fun p hp => ?_) (fun h2 c F2 N2 => ?_)
        · intro z
          have zz := hD p hp
          rw [z] at zz
          exact Nat.lt_irrefl _ zz
        · have kp : ∀ b o, b ≠ X.env.locals → s.heap.get? b = some o → h2.get? b = some o := fun b o hb ho => by
            cases e : X.base.get? b with
            | some z =>
              have zz := (I.bs b z e).1
              rw [ho] at zz
              cases zz
              exact F2.keep b _ e
            | none => exact (N2 (b, o) (List.mem_cons_of_mem _ (mem_allNews hb e ho))).1
          have hv : Vals ((arr.toList.map fun i => rs.getD i 0).map V.ref) (arr.toList.map fun i => (rs.map Value.ref).getD i Value.none) := by
            rw [List.map_map]
            refine paired_map (F := RelV) arr.toList fun i hi => ?_
            have hi' := hlt i hi
            show (rs.map Value.ref).getD i Value.none = Value.ref (rs.getD i 0)
            rw [List.getD_eq_getElem?_getD, List.getD_eq_getElem?_getD, List.getElem?_map, List.getElem?_eq_getElem hi']
            rfl
          have hok2 : HOk X.prog X.w (upd H D (.lst ((arr.toList.map fun i => rs.getD i 0).map V.ref))) h2 := by
            intro b o hb
            by_cases e : b = D
            · subst e
              rw [upd_same] at hb
              cases hb
              exact ⟨by rw [List.length_map, List.length_map, hal]; exact Nat.le_trans (Nat.le_of_lt h64) (by decide), _, c, hv, (N2 (b, _) List.mem_cons_self).1⟩
            · rw [upd_ne e] at hb
              refine (I.hok b o hb).stay (fun b' o' hb' e' => ?_) (fun b' hb' => ?_) (fun b' xs' hb' => ?_)
              · rcases hb' with z | z
                · rw [z] at e' ⊢
                  exact kp b o' (ne_of_none hb I.free) e'
                · exact kp b' o' (ne_of_none z I.free) e'
              · rw [upd_ne (ne_of_none hb' HDn)]; exact hb'
              · rw [upd_ne (ne_of_none hb' HDn)]; exact hb'
          refine ⟨.ref D, _, I.quietly (t' := s.toks) F.ns F2.ns kp (fun b o h1 h3 => ?_) (fun b o h1 => ?_) hok2, rfl, q D _ (arr.toList.map fun i => ps.getD i (0, 0)) HDn ?_ ?_ ?_⟩
          · rw [upd_ne]
            · exact h3
            · intro z
              rw [z, hDn.1] at h1
              cases h1
          · rw [upd_ne (ne_of_none h1 HDn)]
            exact h1
          · refine ⟨by rw [List.length_map, List.length_map], fun i r p a b => ?_⟩
            obtain ⟨m, hm, rfl⟩ := map_get a
            rw [List.getElem?_map, hm] at b
            have hb : p = ps.getD m (0, 0) := (Option.some.inj b).symm
            have hml := hlt m (List.mem_of_getElem? hm)
            rw [hb]
            exact hT.2 m _ _ (by rw [List.getD_eq_getElem?_getD, List.getElem?_eq_getElem hml]; rfl) (by rw [List.getD_eq_getElem?_getD, List.getElem?_eq_getElem (by omega)]; rfl)
          · have z := perm.map (fun i => ps.getD i (0, 0))
            rw [hlen, map_getD_range] at z
            exact z
          · rw [List.pairwise_iff_getElem]
            intro i j hi hj hij
            rw [List.length_map] at hi hj
            have u := up i j (Nat.le_of_lt hij) (by omega)
            unfold L2.kp at u
            have g : ∀ k (hk : k < arr.toList.length), arr.getD k 0 = arr.toList[k] := fun k hk => by
              rw [Array.getD_eq_getD_getElem?, Array.getElem?_eq_getElem (by simpa using hk)]
              simp
            rw [g i hi, g j hj] at u
            rw [List.getElem_map, List.getElem_map]
            have m1 := hlt _ (List.getElem_mem hi)
            have m2 := hlt _ (List.getElem_mem hj)
            have b1 : (ps.getD arr.toList[i] (0, 0)).2 < M := hM _ (List.mem_of_getElem? (i := arr.toList[i]) (by rw [List.getD_eq_getElem?_getD, List.getElem?_eq_getElem (by omega)]; rfl))
            have b2 : (ps.getD arr.toList[j] (0, 0)).2 < M := hM _ (List.mem_of_getElem? (i := arr.toList[j]) (by rw [List.getD_eq_getElem?_getD, List.getElem?_eq_getElem (by omega)]; rfl))
            have u' : keyM M (ps.getD arr.toList[i] (0, 0)) ≤ keyM M (ps.getD arr.toList[j] (0, 0)) := u
            have nl : ¬ keyM M (ps.getD arr.toList[j] (0, 0)) < keyM M (ps.getD arr.toList[i] (0, 0)) := by omega
            rw [keyM_lt b2 b1] at nl
            unfold leP
            omega
end
end PN
namespace L2
open PySem PySem.Spec PyProof.Rows
theorem op_in_seqK {X : Cx} {K : PySem.W.Frag} (hK : X.K = K) : OpR X (compareOp .In) (rIn K false) := hK ▸ op_in_seq
theorem op_notIn_seqK {X : Cx} {K : PySem.W.Frag} (hK : X.K = K) : OpR X (compareOp .NotIn) (rIn K true) := hK ▸ op_notIn_seq
end L2

namespace PN
open PySem L2
/-! ### the plain net -/
def plainP (n : Nat) : List Post := (List.range n).map fun i => (i, i + 1)
theorem plainP_succ (n : Nat) : plainP (n + 1) = plainP n ++ [(n, n + 1)] := by
  unfold plainP
  rw [List.range_succ, List.map_append]
  rfl
theorem plainP_length (n : Nat) : (plainP n).length = n := by
  unfold plainP
  rw [List.length_map, List.length_range]
theorem plainP_net {n w : Nat} (h : n < w) : Net w (plainP n) := fun p hp => by
  unfold plainP at hp
  obtain ⟨i, hi, rfl⟩ := List.mem_map.mp hp
  rw [List.mem_range] at hi
  show i < i + 1 ∧ i + 1 < w
  omega
def plainFrom : Nat → List Post
  | 0 => []
  | n + 1 => plainP (n + 1) ++ plainFrom n
theorem plainFrom_net : ∀ {n w : Nat}, n < w → Net w (plainFrom n)
  | 0, _, _ => fun p hp => by cases hp
  | n + 1, w, h => fun p hp => by
    rcases List.mem_append.mp hp with z | z
    · exact plainP_net h p z
    · exact plainFrom_net (n := n) (by omega) p z
theorem passAll_app (ps qs : List Post) (xs : List Int) : passAll (ps ++ qs) xs = passAll qs (passAll ps xs) := by
  unfold passAll
  rw [List.foldl_append]
def TailOk (n : Nat) (xs : List Int) : Prop := ∀ j, n < j → j < xs.length → ∀ i, i < j → xs.getD i 0 ≤ xs.getD j 0
theorem TailOk.step {n : Nat} {xs : List Int} {p : Post} (h : TailOk n xs) (h1 : p.1 < p.2) (h2 : p.2 ≤ n) (h3 : p.2 < xs.length) : TailOk n (stepRow xs p) := fun j hj hl i hi => by
  rw [stepRow_length] at hl
  rw [stepRow_get (by omega) h3, stepRow_get (by omega) h3]
  have a1 := h j hj hl i hi
  have a2 := h j hj hl p.1 (by omega)
  have a3 := h j hj hl p.2 (by omega)
  split
  · rw [if_neg (show j ≠ p.2 by omega), if_neg (show j ≠ p.1 by omega)]
    split
    · exact a2
    · split
      · exact a3
      · exact a1
  · exact a1
theorem TailOk.pass {n : Nat} : ∀ (ps : List Post) (xs : List Int), (∀ p ∈ ps, p.1 < p.2 ∧ p.2 ≤ n) → n < xs.length → TailOk n xs → TailOk n (passAll ps xs)
  | [], _, _, _, h => h
  | p :: ps, xs, hp, hl, h => by
    have z := hp p List.mem_cons_self
    exact TailOk.pass ps (stepRow xs p) (fun q hq => hp q (List.mem_cons_of_mem _ hq)) (by rw [stepRow_length]; exact hl) (h.step z.1 z.2 (by omega))
theorem bubble : ∀ (m : Nat) (xs : List Int), m < xs.length → ∀ i, i ≤ m → (passAll (plainP m) xs).getD i 0 ≤ (passAll (plainP m) xs).getD m 0
  | 0, xs, _, i, hi => by
    have e : i = 0 := by omega
    rw [e]
    exact Int.le_refl _
  | m + 1, xs, hl, i, hi => by
    rw [plainP_succ, passAll_app]
    show (stepRow (passAll (plainP m) xs) (m, m + 1)).getD i 0 ≤ (stepRow (passAll (plainP m) xs) (m, m + 1)).getD (m + 1) 0
    have ih := bubble m xs (by omega)
    have hl' : (passAll (plainP m) xs).length = xs.length := passAll_length _ _
    generalize passAll (plainP m) xs = ys at ih hl'
    rw [stepRow_get (show m < ys.length by omega) (show m + 1 < ys.length by omega), stepRow_get (show m < ys.length by omega) (show m + 1 < ys.length by omega)]
    show (if ys.getD (m + 1) 0 < ys.getD m 0 then (if i = m + 1 then ys.getD m 0 else if i = m then ys.getD (m + 1) 0 else ys.getD i 0) else ys.getD i 0) ≤ (if ys.getD (m + 1) 0 < ys.getD m 0 then (if m + 1 = m + 1 then ys.getD m 0 else if m + 1 = m then ys.getD (m + 1) 0 else ys.getD (m + 1) 0) else ys.getD (m + 1) 0)
    by_cases c : ys.getD (m + 1) 0 < ys.getD m 0
    · rw [if_pos c, if_pos c, if_pos rfl]
      by_cases c1 : i = m + 1
      · rw [if_pos c1]
        exact Int.le_refl _
      · rw [if_neg c1]
        by_cases c2 : i = m
        · rw [if_pos c2]
          omega
        · rw [if_neg c2]
          exact ih i (by omega)
    · rw [if_neg c, if_neg c]
      by_cases c1 : i = m + 1
      · rw [c1]
        exact Int.le_refl _
      · have := ih i (by omega)
        omega
theorem plain_sorts : ∀ (n : Nat) (xs : List Int), n < xs.length → TailOk n xs → Rising (passAll (plainFrom n) xs)
  | 0, xs, _, h => rising_of_steps fun j hj => h (j + 1) (by omega) hj j (Nat.lt_succ_self _)
  | n + 1, xs, hl, h => by
    rw [show plainFrom (n + 1) = plainP (n + 1) ++ plainFrom n from rfl, passAll_app]
    have t := h.pass (plainP (n + 1)) xs (fun p hp => by have := plainP_net (Nat.lt_succ_self (n + 1)) p hp; omega) hl
    have b := bubble (n + 1) xs hl
    have hl' : (passAll (plainP (n + 1)) xs).length = xs.length := passAll_length _ _
    generalize passAll (plainP (n + 1)) xs = ys at t b hl'
    refine plain_sorts n ys (by omega) fun j hj hjl i hi => ?_
    by_cases c : j = n + 1
    · rw [c]
      exact b i (by omega)
    · exact t j (by omega) hjl i hi
/-- the plain net of a width puts each row in order -/
theorem plainNet_sorts {xs : List Int} (h : 0 < xs.length) : Rising (passAll (plainFrom (xs.length - 1)) xs) := plain_sorts _ _ (by omega) fun j hj hl => by omega
/-! ### a part of the row -/
theorem step_left {xs ys : List Int} {p : Post} (h1 : p.1 < p.2) (h2 : p.2 < xs.length) : stepRow (xs ++ ys) p = stepRow xs p ++ ys := by
  have g : ∀ j, j < xs.length → (xs ++ ys).getD j 0 = xs.getD j 0 := fun j hj => by
    rw [List.getD_eq_getElem?_getD, List.getD_eq_getElem?_getD, List.getElem?_append_left hj]
  unfold stepRow
  rw [g _ h2, g p.1 (by omega)]
  split
  · rw [List.set_append_left _ _ (by omega), List.set_append_left _ _ (by rw [List.length_set]; exact h2)]
  · rfl
theorem pass_left : ∀ (ps : List Post) (xs ys : List Int), Net xs.length ps → passAll ps (xs ++ ys) = passAll ps xs ++ ys
  | [], _, _, _ => rfl
  | p :: ps, xs, ys, h => by
    obtain ⟨h1, h2⟩ := h p List.mem_cons_self
    show passAll ps (stepRow (xs ++ ys) p) = passAll ps (stepRow xs p) ++ ys
    rw [step_left h1 h2]
    exact pass_left ps (stepRow xs p) ys fun q hq => by rw [stepRow_length]; exact h q (List.mem_cons_of_mem _ hq)
def sh (k : Nat) (p : Post) : Post := (p.1 + k, p.2 + k)
theorem step_right {xs ys : List Int} {p : Post} : stepRow (xs ++ ys) (sh xs.length p) = xs ++ stepRow ys p := by
  have g : ∀ j, (xs ++ ys).getD (j + xs.length) 0 = ys.getD j 0 := fun j => by
    rw [List.getD_eq_getElem?_getD, List.getD_eq_getElem?_getD, List.getElem?_append_right (by omega), Nat.add_sub_cancel]
  unfold stepRow sh
  show (if (xs ++ ys).getD (p.2 + xs.length) 0 < (xs ++ ys).getD (p.1 + xs.length) 0 then ((xs ++ ys).set (p.1 + xs.length) ((xs ++ ys).getD (p.2 + xs.length) 0)).set (p.2 + xs.length) ((xs ++ ys).getD (p.1 + xs.length) 0) else xs ++ ys) = _
  rw [g, g]
  split
  · rw [List.set_append_right _ _ (by omega), List.set_append_right _ _ (by omega), Nat.add_sub_cancel, Nat.add_sub_cancel]
  · rfl
theorem pass_right : ∀ (ps : List Post) (xs ys : List Int), passAll (ps.map (sh xs.length)) (xs ++ ys) = xs ++ passAll ps ys
  | [], _, _ => rfl
  | p :: ps, xs, ys => by
    show passAll (ps.map (sh xs.length)) (stepRow (xs ++ ys) (sh xs.length p)) = xs ++ passAll ps (stepRow ys p)
    rw [step_right]
    exact pass_right ps xs (stepRow ys p)
/-! ### posts with a lane that is not there -/
theorem mem_step {xs : List Int} {p : Post} {M : Int} (h1 : p.1 < xs.length) (h2 : p.2 < xs.length) (h : ∀ x ∈ xs, x ≤ M) : ∀ x ∈ stepRow xs p, x ≤ M := fun x hx => by
  by_cases e : p.1 = p.2
  · have z : stepRow xs p = xs := by
      unfold stepRow
      rw [e, if_neg (by omega)]
    rw [z] at hx
    exact h x hx
  · exact h x ((stepRow_perm xs p h1 h2 e).mem_iff.mp hx)
theorem pass_there {M : Int} {N : Nat} : ∀ (ps : List Post) (xs : List Int), Net N ps → (∀ x ∈ xs, x ≤ M) → xs.length ≤ N →
    passAll ps (xs ++ List.replicate (N - xs.length) M) = passAll (ps.filter fun p => decide (p.2 < xs.length)) xs ++ List.replicate (N - xs.length) M
  | [], _, _, _, _ => rfl
  | p :: ps, xs, hn, hM, hl => by
    obtain ⟨h1, h2⟩ := hn p List.mem_cons_self
    have hn' : Net N ps := fun q hq => hn q (List.mem_cons_of_mem _ hq)
    by_cases c : p.2 < xs.length
    · have ih := pass_there ps (stepRow xs p) hn' (mem_step (by omega) c hM) (by rw [stepRow_length]; exact hl)
      rw [stepRow_length] at ih
      rw [List.filter_cons, if_pos (decide_eq_true c)]
      show passAll ps (stepRow (xs ++ List.replicate (N - xs.length) M) p) = passAll (ps.filter fun p => decide (p.2 < xs.length)) (stepRow xs p) ++ List.replicate (N - xs.length) M
      rw [step_left h1 c]
      exact ih
    · rw [List.filter_cons, if_neg (by simpa using c)]
      show passAll ps (stepRow (xs ++ List.replicate (N - xs.length) M) p) = _
      have g2 : (xs ++ List.replicate (N - xs.length) M).getD p.2 0 = M := by
        rw [List.getD_eq_getElem?_getD, List.getElem?_append_right (by omega), List.getElem?_replicate, if_pos (by omega)]
        rfl
      have g1 : (xs ++ List.replicate (N - xs.length) M).getD p.1 0 ≤ M := by
        rw [List.getD_eq_getElem?_getD]
        by_cases c1 : p.1 < xs.length
        · rw [List.getElem?_append_left c1, List.getElem?_eq_getElem c1]
          exact hM _ (List.getElem_mem c1)
        · rw [List.getElem?_append_right (by omega), List.getElem?_replicate, if_pos (by omega)]
          exact Int.le_refl _
      have z : stepRow (xs ++ List.replicate (N - xs.length) M) p = xs ++ List.replicate (N - xs.length) M := by
        unfold stepRow
        rw [g2, if_neg (by omega)]
      rw [z]
      exact pass_there ps xs hn' hM hl
theorem bound_all : ∀ xs : List Int, ∃ M : Int, ∀ x ∈ xs, x ≤ M
  | [] => ⟨0, fun x hx => by cases hx⟩
  | y :: ys => by
    obtain ⟨M, h⟩ := bound_all ys
    refine ⟨max y M, fun x hx => ?_⟩
    rcases List.mem_cons.mp hx with e | e
    · rw [e]; omega
    · have := h x e; omega
/-- leaving out what isn't there: a net that puts in order stays one -/
theorem sorts_there {N : Nat} {ps : List Post} (hn : Net N ps) (h : ∀ ys : List Int, ys.length = N → Rising (passAll ps ys)) {xs : List Int} (hl : xs.length ≤ N) : Rising (passAll (ps.filter fun p => decide (p.2 < xs.length)) xs) := by
  obtain ⟨M, hM⟩ := bound_all xs
  have z := h (xs ++ List.replicate (N - xs.length) M) (by rw [List.length_append, List.length_replicate]; omega)
  rw [pass_there ps xs hn hM hl] at z
  exact (List.pairwise_append.mp z).1
/-! ### by halves -/
def rungs (a c s : Nat) : List Post := (List.range (c / (2 * s) - 1)).map fun k => (a + s + 2 * s * k, a + s + 2 * s * k + s)
def mergedP : Nat → Nat → Nat → Nat → List Post
  | 0, _, _, _ => []
  | f + 1, a, c, s => if c ≤ 2 * s then [(a, a + s)] else mergedP f a c (2 * s) ++ mergedP f (a + s) c (2 * s) ++ rungs a c s
def hv : Nat → List Post
  | 0 => []
  | d + 1 => hv d ++ (hv d).map (sh (2 ^ d)) ++ mergedP (d + 1) 0 (2 ^ (d + 1)) 1
def zo (n a : Nat) : List Int := List.replicate a 0 ++ List.replicate (n - a) 1
theorem zo_of : ∀ (xs : List Int), (∀ x ∈ xs, x = 0 ∨ x = 1) → Rising xs → ∃ a, a ≤ xs.length ∧ xs = zo xs.length a
  | [], _, _ => ⟨0, Nat.le_refl _, rfl⟩
  | x :: xs, hx, hr => by
    have hr' := List.pairwise_cons.mp hr
    obtain ⟨a, ha, e⟩ := zo_of xs (fun y hy => hx y (List.mem_cons_of_mem _ hy)) hr'.2
    rcases hx x List.mem_cons_self with z | z
    · refine ⟨a + 1, Nat.succ_le_succ ha, ?_⟩
      unfold zo
      rw [List.replicate_succ, List.length_cons, Nat.add_sub_add_right, z]
      show 0 :: xs = 0 :: (List.replicate a 0 ++ List.replicate (xs.length - a) 1)
      rw [show List.replicate a (0 : Int) ++ List.replicate (xs.length - a) 1 = zo xs.length a from rfl, ← e]
    · have all1 : ∀ y ∈ xs, y = 1 := fun y hy => by
        have := hr'.1 y hy
        rcases hx y (List.mem_cons_of_mem _ hy) with w | w
        · omega
        · exact w
      refine ⟨0, Nat.zero_le _, ?_⟩
      unfold zo
      rw [List.replicate_zero, List.nil_append, Nat.sub_zero]
      refine List.eq_replicate_iff.mpr ⟨rfl, fun y hy => ?_⟩
      rcases List.mem_cons.mp hy with w | w
      · rw [w, z]
      · exact all1 y w
def risingB : List Int → Bool
  | [] => true
  | [_] => true
  | x :: y :: r => decide (x ≤ y) && risingB (y :: r)
theorem risingB_ok : ∀ {xs : List Int}, risingB xs = true → Rising xs
  | [], _ => .nil
  | [x], _ => by simp [Rising]
  | x :: y :: r, h => by
    have h' : (decide (x ≤ y) && risingB (y :: r)) = true := h
    rw [Bool.and_eq_true, decide_eq_true_eq] at h'
    have ih := risingB_ok h'.2
    refine List.pairwise_cons.mpr ⟨fun z hz => ?_, ih⟩
    rcases List.mem_cons.mp hz with e | e
    · rw [e]; exact h'.1
    · exact Int.le_trans h'.1 ((List.pairwise_cons.mp ih).1 z e)
def mergeB (d : Nat) : Bool := (List.range (2 ^ d + 1)).all fun a => (List.range (2 ^ d + 1)).all fun b => risingB (passAll (mergedP (d + 1) 0 (2 ^ (d + 1)) 1) (zo (2 ^ d) a ++ zo (2 ^ d) b))
def netB (n : Nat) (ps : List Post) : Bool := ps.all fun p => decide (p.1 < p.2) && decide (p.2 < n)
theorem netB_ok {n : Nat} {ps : List Post} (h : netB n ps = true) : Net n ps := fun p hp => by
  have z := List.all_eq_true.mp h p hp
  rw [Bool.and_eq_true, decide_eq_true_eq, decide_eq_true_eq] at z
  exact z
theorem merge_sorts {d : Nat} (hb : mergeB d = true) (hn : Net (2 ^ (d + 1)) (mergedP (d + 1) 0 (2 ^ (d + 1)) 1)) {l r : List Int} (hl : l.length = 2 ^ d) (hr : r.length = 2 ^ d) (sl : Rising l) (sr : Rising r) : Rising (passAll (mergedP (d + 1) 0 (2 ^ (d + 1)) 1) (l ++ r)) := by
  have hlen : (l ++ r).length = 2 ^ (d + 1) := by rw [List.length_append, hl, hr, Nat.pow_succ]; omega
  refine Classical.byContradiction fun c => ?_
  obtain ⟨m, _, hm⟩ := bits_tell c
  rw [← pass_bits _ _ (by rw [hlen]; exact hn)] at hm
  have eb : bitsOf m (l ++ r) = bitsOf m l ++ bitsOf m r := by unfold bitsOf; rw [List.map_append]
  have bit : ∀ ys : List Int, ∀ x ∈ bitsOf m ys, x = 0 ∨ x = 1 := fun ys x hx => by
    unfold bitsOf at hx
    obtain ⟨n, _, rfl⟩ := List.mem_map.mp hx
    split
    · exact .inr rfl
    · exact .inl rfl
  have ris : ∀ ys : List Int, Rising ys → Rising (bitsOf m ys) := fun ys hy => by
    unfold bitsOf Rising
    refine List.pairwise_map.mpr (List.Pairwise.imp (fun {a b} hab => ?_) hy)
    split <;> split <;> omega
  obtain ⟨a, ha, ea⟩ := zo_of _ (bit l) (ris l sl)
  obtain ⟨b, hb', eb'⟩ := zo_of _ (bit r) (ris r sr)
  rw [bitsOf_length, hl] at ha ea
  rw [bitsOf_length, hr] at hb' eb'
  rw [eb, ea, eb'] at hm
  have z := List.all_eq_true.mp (List.all_eq_true.mp hb a (List.mem_range.mpr (by omega))) b (List.mem_range.mpr (by omega))
  exact hm (risingB_ok z)
theorem hv_net : ∀ d, (∀ e, e < d → Net (2 ^ (e + 1)) (mergedP (e + 1) 0 (2 ^ (e + 1)) 1)) → Net (2 ^ d) (hv d)
  | 0, _ => fun p hp => by cases hp
  | d + 1, hm => fun p hp => by
    have ih := hv_net d fun e he => hm e (by omega)
    have hp' : p ∈ hv d ++ (hv d).map (sh (2 ^ d)) ++ mergedP (d + 1) 0 (2 ^ (d + 1)) 1 := hp
    have e2 : 2 ^ (d + 1) = 2 ^ d + 2 ^ d := by rw [Nat.pow_succ]; omega
    rcases List.mem_append.mp hp' with z | z
    · rcases List.mem_append.mp z with z | z
      · have := ih p z
        omega
      · obtain ⟨q, hq, rfl⟩ := List.mem_map.mp z
        have := ih q hq
        show q.1 + 2 ^ d < q.2 + 2 ^ d ∧ q.2 + 2 ^ d < 2 ^ (d + 1)
        omega
    · exact hm d (by omega) p z
theorem hv_sorts : ∀ d, (∀ e, e < d → Net (2 ^ (e + 1)) (mergedP (e + 1) 0 (2 ^ (e + 1)) 1) ∧ mergeB e = true) → ∀ xs : List Int, xs.length = 2 ^ d → Rising (passAll (hv d) xs)
  | 0, _, xs, hl => by
    match xs, hl with
    | [x], _ => exact List.pairwise_singleton _ _
  | d + 1, hm, xs, hl => by
    have ih := hv_sorts d fun e he => hm e (by omega)
    have hn := hv_net d fun e he => (hm e (by omega)).1
    have e2 : 2 ^ (d + 1) = 2 ^ d + 2 ^ d := by rw [Nat.pow_succ]; omega
    have h1 : (xs.take (2 ^ d)).length = 2 ^ d := by rw [List.length_take]; omega
    have h2 : (xs.drop (2 ^ d)).length = 2 ^ d := by rw [List.length_drop]; omega
    have ex : xs = xs.take (2 ^ d) ++ xs.drop (2 ^ d) := (List.take_append_drop _ _).symm
    generalize xs.take (2 ^ d) = l at h1 ex
    generalize xs.drop (2 ^ d) = r at h2 ex
    subst ex
    rw [show hv (d + 1) = hv d ++ (hv d).map (sh (2 ^ d)) ++ mergedP (d + 1) 0 (2 ^ (d + 1)) 1 from rfl, passAll_app, passAll_app, pass_left _ _ _ (by rw [h1]; exact hn)]
    have h3 : (passAll (hv d) l).length = 2 ^ d := by rw [passAll_length, h1]
    have z := pass_right (hv d) (passAll (hv d) l) r
    rw [h3] at z
    rw [z]
    exact merge_sorts (hm d (by omega)).2 (hm d (by omega)).1 h3 (by rw [passAll_length, h2]) (ih l h1) (ih r h2)
theorem merges_ok : ∀ e, e < 5 → Net (2 ^ (e + 1)) (mergedP (e + 1) 0 (2 ^ (e + 1)) 1) ∧ mergeB e = true := by
  have h : ((List.range 5).all fun e => netB (2 ^ (e + 1)) (mergedP (e + 1) 0 (2 ^ (e + 1)) 1) && mergeB e) = true := by decide +kernel
  intro e he
  have z := List.all_eq_true.mp h e (List.mem_range.mpr he)
  rw [Bool.and_eq_true] at z
  exact ⟨netB_ok z.1, z.2⟩
def lg (w : Nat) : Nat := if w ≤ 1 then 0 else if w ≤ 2 then 1 else if w ≤ 4 then 2 else if w ≤ 8 then 3 else if w ≤ 16 then 4 else 5
def byHalves (w : Nat) : List Post := (hv (lg w)).filter fun p => decide (p.2 < w)
theorem lg_le (w : Nat) : lg w ≤ 5 := by
  unfold lg
  split
  · omega
  · split
    · omega
    · split
      · omega
      · split
        · omega
        · split <;> omega
theorem lg_ge {w : Nat} (h : w ≤ 32) : w ≤ 2 ^ lg w := by
  unfold lg
  split
  · simpa using by assumption
  · split
    · simpa using by assumption
    · split
      · simpa using by assumption
      · split
        · simpa using by assumption
        · split
          · simpa using by assumption
          · simpa using h
/-- the net that is built by halves puts each row in order -/
theorem built_sorts {xs : List Int} (h : xs.length ≤ 32) : Rising (passAll (byHalves xs.length) xs) :=
  sorts_there (N := 2 ^ lg xs.length) (hv_net _ fun e he => (merges_ok e (by have := lg_le xs.length; omega)).1) (hv_sorts _ fun e he => merges_ok e (by have := lg_le xs.length; omega)) (lg_ge h)
theorem byHalves_net (w : Nat) : Net w (byHalves w) := fun p hp => by
  unfold byHalves at hp
  obtain ⟨a, b⟩ := List.mem_filter.mp hp
  have := hv_net _ (fun e he => (merges_ok e (by have := lg_le w; omega)).1) p a
  exact ⟨this.1, by simpa using b⟩
/-! ### nets that sort, and posts more or fewer -/
def SN (w : Nat) (ps : List Post) : Prop := Net w ps ∧ ∀ xs : List Int, xs.length = w → Rising (passAll ps xs)
theorem SN.built {w : Nat} (h : w ≤ 32) : SN w (byHalves w) := ⟨byHalves_net w, fun xs hx => by
  have z := built_sorts (xs := xs) (by omega)
  rw [hx] at z
  exact z⟩
theorem SN.plain {w : Nat} (h : 1 ≤ w) : SN w (plainFrom (w - 1)) := ⟨plainFrom_net (by omega), fun xs hx => by
  have z := plainNet_sorts (xs := xs) (by omega)
  rw [hx] at z
  exact z⟩
theorem rising_le {xs : List Int} (h : Rising xs) {i j : Nat} (hij : i < j) (hj : j < xs.length) : xs.getD i 0 ≤ xs.getD j 0 := by
  have z := (List.pairwise_iff_getElem.mp h) i j (by omega) hj hij
  rw [List.getD_eq_getElem?_getD, List.getD_eq_getElem?_getD, List.getElem?_eq_getElem hj, List.getElem?_eq_getElem (show i < xs.length by omega)]
  exact z
theorem rising_pass {ps : List Post} {xs : List Int} (hn : Net xs.length ps) (h : Rising xs) : passAll ps xs = xs := passAll_zeros ps xs hn fun p hp => rising_le h (hn p hp).1 (hn p hp).2
theorem Net.app {w : Nat} {ps qs : List Post} (h : Net w ps) (k : Net w qs) : Net w (ps ++ qs) := fun p hp => (List.mem_append.mp hp).elim (h p) (k p)
theorem SN.ahead {w : Nat} {ps ms : List Post} (h : SN w ps) (k : Net w ms) : SN w (ms ++ ps) := ⟨k.app h.1, fun xs hx => by
  rw [passAll_app]
  exact h.2 _ (by rw [passAll_length]; exact hx)⟩
theorem SN.behind {w : Nat} {ps ms : List Post} (h : SN w ps) (k : Net w ms) : SN w (ps ++ ms) := ⟨h.1.app k, fun xs hx => by
  rw [passAll_app, rising_pass (by rw [passAll_length, hx]; exact k) (h.2 xs hx)]
  exact h.2 xs hx⟩
theorem SN.none {w : Nat} {ps : List Post} (h : SN w ps) : firstBad w ps = none := List.find?_eq_none.mpr fun r hr => by
  unfold badB
  rw [decide_eq_true (h.2 r (rowsP_row w r hr))]
  decide
theorem fewer_built {w : Nat} (h1 : 2 ≤ w) (h2 : w ≤ 6) : firstBad w ((byHalves w).take ((byHalves w).length - 1)) ≠ none := by
  have h : w = 2 ∨ w = 3 ∨ w = 4 ∨ w = 5 ∨ w = 6 := by omega
  have d : ∀ w ∈ [2, 3, 4, 5, 6], (firstBad w ((byHalves w).take ((byHalves w).length - 1))).isSome = true := by decide +kernel
  have z := d w (by rcases h with rfl | rfl | rfl | rfl | rfl <;> decide)
  intro e
  rw [e] at z
  cases z
theorem fewer_plain {w : Nat} (h1 : 2 ≤ w) (h2 : w ≤ 6) : firstBad w ((plainFrom (w - 1)).take ((plainFrom (w - 1)).length - 1)) ≠ none := by
  have h : w = 2 ∨ w = 3 ∨ w = 4 ∨ w = 5 ∨ w = 6 := by omega
  have d : ∀ w ∈ [2, 3, 4, 5, 6], (firstBad w ((plainFrom (w - 1)).take ((plainFrom (w - 1)).length - 1))).isSome = true := by decide +kernel
  have z := d w (by rcases h with rfl | rfl | rfl | rfl | rfl <;> decide)
  intro e
  rw [e] at z
  cases z
theorem built_length {w : Nat} (h : w ≤ 32) : (byHalves w).length ≤ 300 := by
  have d : ∀ w ∈ List.range 33, (byHalves w).length ≤ 300 := by decide +kernel
  exact d w (List.mem_range.mpr (by omega))
theorem plain_length : ∀ n : Nat, (plainFrom n).length ≤ n * n
  | 0 => Nat.le_refl _
  | n + 1 => by
    rw [show plainFrom (n + 1) = plainP (n + 1) ++ plainFrom n from rfl, List.length_append, plainP_length]
    have ih := plain_length n
    have e : (n + 1) * (n + 1) = n * n + n + n + 1 := by rw [Nat.add_mul, Nat.mul_add]; omega
    omega
theorem Tups.app {H : Hp} {rs qs : List Addr} {ps os : List Post} (h : Tups H rs ps) (k : Tups H qs os) : Tups H (rs ++ qs) (ps ++ os) := by
  refine ⟨by rw [List.length_append, List.length_append, h.1, k.1], fun i r p a b => ?_⟩
  rw [List.getElem?_append] at a b
  by_cases c : i < rs.length
  · rw [if_pos c] at a
    rw [if_pos (h.1 ▸ c)] at b
    exact h.2 i r p a b
  · rw [if_neg c] at a
    rw [if_neg (h.1 ▸ c), ← h.1] at b
    exact k.2 _ r p a b
theorem Tups.take {H : Hp} {rs : List Addr} {ps : List Post} (h : Tups H rs ps) (n : Nat) : Tups H (rs.take n) (ps.take n) := by
  refine ⟨by rw [List.length_take, List.length_take, h.1], fun i r p a b => ?_⟩
  rw [List.getElem?_take] at a b
  by_cases c : i < n
  · rw [if_pos c] at a b
    exact h.2 i r p a b
  · rw [if_neg c] at a
    cases a
theorem Tups.drop {H : Hp} {rs : List Addr} {ps : List Post} (h : Tups H rs ps) (n : Nat) : Tups H (rs.drop n) (ps.drop n) := by
  refine ⟨by rw [List.length_drop, List.length_drop, h.1], fun i r p a b => ?_⟩
  rw [List.getElem?_drop] at a b
  exact h.2 _ r p a b
theorem seq_by {t u : TS} {D : Ends} {σ : St} {H : Hp} (R : St → Hp → Prop) (h1 : ∀ N : St → Hp → Prop, (∀ σ H, R σ H → N σ H) → t { D with nx := N } σ H) (h2 : ∀ σ H, R σ H → u D σ H) : tSeq t u D σ H := h1 (u D) h2
end PN

namespace PN
open PySem PySem.Spec PyProof.Rows L2
/-! ### None not in a list of Nones and lists of ints -/
def rNoneNotIn (K : PySem.W.Frag) : R2 := fun x y H Q => ∃ p xs, x = .non ∧ y = .ref p ∧ SqL K H p xs ∧ (∀ v ∈ xs, v = .non ∨ ∃ d ns, v = .ref d ∧ Ints H d ns) ∧ Q (.bl (!xs.any fun v => decide (v = .non))) H
def isNoneU : Value → Bool
  | .none => true
  | _ => false
theorem any_none {H : Hp} : ∀ {xs : List V} {us : List Value}, Vals xs us → (∀ v ∈ xs, v = .non ∨ ∃ d ns, v = .ref d ∧ Ints H d ns) → us.any isNoneU = xs.any fun v => decide (v = .non)
  | _, _, .nil, _ => rfl
  | x :: xs, u :: us, .cons r t, h => by
    rw [List.any_cons, List.any_cons, any_none t fun v hv => h v (List.mem_cons_of_mem _ hv)]
    congr 1
    rcases h x List.mem_cons_self with e | ⟨d, ns, e, _⟩
    · subst e
      cases r
      rfl
    · subst e
      cases r
      rfl
theorem mem_vals : ∀ {xs : List V} {us : List Value}, Vals xs us → ∀ u ∈ us, ∃ v ∈ xs, RelV v u
  | _, _, .nil, u, hu => by cases hu
  | x :: xs, u' :: us, .cons r t, u, hu => by
    rcases List.mem_cons.mp hu with e | e
    · rw [e]
      exact ⟨x, List.mem_cons_self, r⟩
    · obtain ⟨v, hv, rv⟩ := mem_vals t u e
      exact ⟨v, List.mem_cons_of_mem _ hv, rv⟩
theorem op_noneNotIn {X : Cx} (hu : X.A.units + 64 < cLine) : OpR X (compareOp .NotIn) (rNoneNotIn X.K) := by
  intro pins s σ H x y v u Q I rx ry h
  obtain ⟨p, xs, rfl, rfl, hq, hall, q⟩ := h
  cases rx
  cases ry
  obtain ⟨its, r, pl, hz⟩ := I.list hq
  refine SeqAt.notIn_listAt isNoneU pl.isList (fun w hw => ?_) ⟨.bl _, H, I, rfl, ?_⟩
  · obtain ⟨v, hv, rv⟩ := mem_vals r w (by simpa using hw)
    rcases hall v hv with e | ⟨d, ns, e, hd⟩
    · subst e
      have z := eqAt_V (A := X.A.in1) (s := s) (y := .non) (x := .non) rv (show RelV .non Value.none from rfl) rfl rfl
      cases rv
      exact z
    · subst e
      obtain ⟨as, ra⟩ := DtV.ints (P := X.prog) (w := X.w) hd _ I.hok _ rv
      obtain ⟨bs, rb⟩ := DtV.non (P := X.prog) (w := X.w) (H := H) _ I.hok Value.none rfl
      have z := SeqAt.eqAt_reads _ _ X.A.in1 s w Value.none as bs ra rb (by
        have := PySem.W.shaped_ints ns
        unfold SeqAt.shaped at this
        rw [Bool.and_eq_true] at this
        exact this.1) rfl (by
        have e : min (PyData.depth (.list (ns.map PyData.int))) (PyData.depth .none) ≤ PyData.depth .none := Nat.min_le_right _ _
        have e2 : PyData.depth .none ≤ 60 := by decide
        show X.A.units + 1 + _ < cLine
        omega)
      cases rv
      exact z
  · rw [show its.toArray.any isNoneU = its.any isNoneU by simp, any_none r hall]
    exact q
end PN

namespace PN
open PySem L2
def hvA : Nat → Nat → List Post
  | 0, _ => []
  | d + 1, a => hvA d a ++ hvA d (a + 2 ^ d) ++ mergedP (d + 1) a (2 ^ (d + 1)) 1
def rungsN (a s k : Nat) : List Post := (List.range k).map fun k => (a + s + 2 * s * k, a + s + 2 * s * k + s)
theorem rungsN_succ (a s k : Nat) : rungsN a s (k + 1) = rungsN a s k ++ [(a + s + 2 * s * k, a + s + 2 * s * k + s)] := by
  unfold rungsN
  rw [List.range_succ, List.map_append]
  rfl
theorem merged_length : ∀ (f a c s : Nat), c ≤ 64 → (mergedP f a c s).length + 64 ≤ 2 ^ f * 64
  | 0, a, c, s, h => by show 0 + 64 ≤ 1 * 64; omega
  | f + 1, a, c, s, h => by
    have i1 := merged_length f a c (2 * s) h
    have i2 := merged_length f (a + s) c (2 * s) h
    have hp : 1 ≤ 2 ^ f := Nat.one_le_two_pow
    show (if c ≤ 2 * s then [(a, a + s)] else mergedP f a c (2 * s) ++ mergedP f (a + s) c (2 * s) ++ rungs a c s).length + 64 ≤ 2 ^ (f + 1) * 64
    rw [Nat.pow_succ]
    split
    · show 1 + 64 ≤ _
      omega
    · rw [List.length_append, List.length_append]
      have z : (rungs a c s).length ≤ 64 := by
        unfold rungs
        rw [List.length_map, List.length_range]
        have := Nat.div_le_self c (2 * s)
        omega
      omega
theorem hvA_length : ∀ (d a : Nat), d ≤ 5 → (hvA d a).length + 2048 ≤ 2048 * 2 ^ d
  | 0, a, _ => by show 0 + 2048 ≤ 2048 * 1; omega
  | d + 1, a, h => by
    have i1 := hvA_length d a (by omega)
    have i2 := hvA_length d (a + 2 ^ d) (by omega)
    have hc : 2 ^ (d + 1) ≤ 2 ^ 5 := Nat.pow_le_pow_right (by decide) h
    have m := merged_length (d + 1) a (2 ^ (d + 1)) 1 (by omega)
    have e : 2 ^ (d + 1) * 64 ≤ 2048 := by omega
    show (hvA d a ++ hvA d (a + 2 ^ d) ++ mergedP (d + 1) a (2 ^ (d + 1)) 1).length + 2048 ≤ 2048 * 2 ^ (d + 1)
    rw [List.length_append, List.length_append]
    rw [Nat.pow_succ] at *
    omega
theorem hvA_hv : ∀ d, d ≤ 5 → hvA d 0 = hv d := by
  have h : ∀ d ∈ List.range 6, hvA d 0 = hv d := by decide +kernel
  exact fun d hd => h d (List.mem_range.mpr (by omega))
theorem lg_of {d w : Nat} (h5 : d ≤ 5) (hw : w ≤ 2 ^ d) (hd : d = 0 ∨ 2 ^ (d - 1) < w) : lg w = d := by
  have h : d = 0 ∨ d = 1 ∨ d = 2 ∨ d = 3 ∨ d = 4 ∨ d = 5 := by omega
  unfold lg
  rcases h with rfl | rfl | rfl | rfl | rfl | rfl <;> simp at hw hd <;> (repeat' split) <;> omega
theorem filter_take {ps : List Post} {w i : Nat} {p : Post} (h : ps[i]? = some p) : (ps.take (i + 1)).filter (fun p => decide (p.2 < w)) = (ps.take i).filter (fun p => decide (p.2 < w)) ++ (if p.2 < w then [p] else []) := by
  rw [take_snoc h, List.filter_append]
  by_cases c : p.2 < w
  · rw [if_pos c, List.filter_cons, if_pos (decide_eq_true c)]
    rfl
  · rw [if_neg c, List.filter_cons, if_neg (by simpa using c)]
    rfl
def actB (ps : List Post) (k : Nat) (r : List Int) : Bool := acts (passAll (ps.take k) r) (ps.getD k (0, 0))
/-- what is known of a post behind some rows -/
def At1 (H : Hp) (rows : List (List Int)) (ps : List Post) (j : Nat) (v : V) : Prop := (v = .non ∧ rows.find? (actB ps j) = none) ∨ ∃ d r, v = .ref d ∧ rows.find? (actB ps j) = some r ∧ Ints H d r
def DueOk (H : Hp) (ds : List V) (rows : List (List Int)) (ps : List Post) : Prop := ds.length = ps.length ∧ ∀ j v, ds[j]? = some v → At1 H rows ps j v
theorem At1.mono {H H' : Hp} {rows : List (List Int)} {ps : List Post} {j : Nat} {v : V} (h : At1 H rows ps j v) (s : ∀ d r, v = .ref d → Ints H d r → Ints H' d r) : At1 H' rows ps j v := by
  rcases h with h | ⟨d, r, e, f, i⟩
  · exact .inl h
  · exact .inr ⟨d, r, e, f, s d r e i⟩
theorem At1.no {H : Hp} {rows : List (List Int)} {ps : List Post} {j i : Nat} {v : V} {row : List Int} (hr : rows[i]? = some row) (h : At1 H (rows.take i) ps j v) (c : actB ps j row = false) : At1 H (rows.take (i + 1)) ps j v := by
  rw [take_snoc hr]
  rcases h with ⟨e, f⟩ | ⟨d, r, e, f, x⟩
  · exact .inl ⟨e, by rw [List.find?_append, f, List.find?_cons, c]; rfl⟩
  · exact .inr ⟨d, r, e, by rw [List.find?_append, f]; rfl, x⟩
theorem At1.old {H : Hp} {rows : List (List Int)} {ps : List Post} {j i : Nat} {d : Addr} {row : List Int} (hr : rows[i]? = some row) (h : At1 H (rows.take i) ps j (.ref d)) : At1 H (rows.take (i + 1)) ps j (.ref d) := by
  rw [take_snoc hr]
  rcases h with ⟨e, f⟩ | ⟨d', r, e, f, x⟩
  · cases e
  · exact .inr ⟨d', r, e, by rw [List.find?_append, f]; rfl, x⟩
theorem At1.yes {H H' : Hp} {rows : List (List Int)} {ps : List Post} {j i : Nat} {d : Addr} {row : List Int} (hr : rows[i]? = some row) (h : At1 H (rows.take i) ps j .non) (c : actB ps j row = true) (x : Ints H' d row) : At1 H' (rows.take (i + 1)) ps j (.ref d) := by
  rw [take_snoc hr]
  rcases h with ⟨e, f⟩ | ⟨d', r, e, f, x⟩
  · exact .inr ⟨d, row, rfl, by rw [List.find?_append, f, List.find?_cons, c]; rfl, x⟩
  · cases e
theorem rowsP_bit : ∀ n, ∀ r ∈ rowsP n, ∀ x ∈ r, x = 0 ∨ x = 1
  | 0, r, h, x, hx => by
    rw [show rowsP 0 = [[]] from rfl, List.mem_singleton] at h
    rw [h] at hx
    cases hx
  | n + 1, r, h, x, hx => by
    have h' : r ∈ (rowsP n).map (fun r => 0 :: r) ++ (rowsP n).map (fun r => 1 :: r) := h
    rcases List.mem_append.mp h' with h1 | h1
    · obtain ⟨q, hq, rfl⟩ := List.mem_map.mp h1
      rcases List.mem_cons.mp hx with e | e
      · exact .inl e
      · exact rowsP_bit n q hq x e
    · obtain ⟨q, hq, rfl⟩ := List.mem_map.mp h1
      rcases List.mem_cons.mp hx with e | e
      · exact .inr e
      · exact rowsP_bit n q hq x e
theorem rep_non (n : Nat) : (List.replicate n [V.non]).flatten = List.replicate n V.non := by
  induction n with
  | zero => rfl
  | succ n ih => rw [List.replicate_succ, List.flatten_cons, ih, List.replicate_succ]; rfl
theorem acts_bits {w i : Nat} {ps : List Post} {p : Post} {xs : List Int} (hx : xs.length = w) (hn : Net w ps) (hp : ps[i]? = some p) (c : (passAll (ps.take i) xs).getD p.2 0 < (passAll (ps.take i) xs).getD p.1 0) : (rowsP w).find? (actB ps i) ≠ none := fun z => by
  have hnx : Net xs.length (ps.take i) := fun q hq => by rw [hx]; exact hn q (List.mem_of_mem_take hq)
  obtain ⟨h1, h2⟩ := hn.at hp
  have e := List.find?_eq_none.mp z (bitsOf ((passAll (ps.take i) xs).getD p.1 0) xs) (by rw [← hx]; exact bits_in)
  apply e
  unfold actB acts
  have hgp : ps.getD i (0, 0) = p := by rw [List.getD_eq_getElem?_getD, hp]; rfl
  rw [hgp, pass_bits _ _ hnx, bitsOf_get (by rw [passAll_length]; omega), bitsOf_get (by rw [passAll_length]; omega), if_pos (Int.le_refl _), if_neg (by omega)]
  decide
/-! ### thinning -/
def thinN (w : Nat) (ps : List Post) : Nat → List Post
  | 0 => []
  | j + 1 => thinN w ps j ++ (if ((rowsP w).find? (actB ps j)).isSome = true then [ps.getD j (0, 0)] else [])
def thinP (w : Nat) (ps : List Post) : List Post := thinN w ps ps.length
theorem thinN_mem {w : Nat} {ps : List Post} : ∀ j, j ≤ ps.length → ∀ p ∈ thinN w ps j, p ∈ ps
  | 0, _, p, hp => by cases hp
  | j + 1, hj, p, hp => by
    rcases List.mem_append.mp hp with z | z
    · exact thinN_mem j (by omega) p z
    · split at z
      · rw [List.mem_singleton.mp z, List.getD_eq_getElem?_getD, List.getElem?_eq_getElem (by omega)]
        exact List.getElem_mem _
      · cases z
theorem thinN_length {w : Nat} {ps : List Post} : ∀ j, (thinN w ps j).length ≤ j
  | 0 => Nat.le_refl _
  | j + 1 => by
    have ih := thinN_length (w := w) (ps := ps) j
    show (thinN w ps j ++ _).length ≤ j + 1
    rw [List.length_append]
    split
    · show _ + 1 ≤ _
      omega
    · show _ + 0 ≤ _
      omega
theorem thin_net {w : Nat} {ps : List Post} (h : Net w ps) : Net w (thinP w ps) := fun p hp => h p (thinN_mem _ (Nat.le_refl _) p hp)
theorem thinN_pass {w : Nat} {ps : List Post} (hn : Net w ps) {xs : List Int} (hx : xs.length = w) : ∀ j, j ≤ ps.length → passAll (thinN w ps j) xs = passAll (ps.take j) xs
  | 0, _ => rfl
  | j + 1, hj => by
    have ih := thinN_pass hn hx j (by omega)
    have hp : ps[j]? = some ps[j] := List.getElem?_eq_getElem (by omega)
    rw [passAll_take hp]
    show passAll (thinN w ps j ++ _) xs = _
    rw [passAll_app, ih]
    have hg : ps.getD j (0, 0) = ps[j] := by rw [List.getD_eq_getElem?_getD, hp]; rfl
    by_cases c : ((rowsP w).find? (actB ps j)).isSome = true
    · rw [if_pos c, hg]
      rfl
    · rw [if_neg c]
      have z : (rowsP w).find? (actB ps j) = none := by
        cases e : (rowsP w).find? (actB ps j) with
        | none => rfl
        | some r => rw [e] at c; exact absurd rfl c
      show passAll (ps.take j) xs = stepRow (passAll (ps.take j) xs) ps[j]
      unfold stepRow
      rw [if_neg fun c2 => acts_bits hx hn hp c2 z]
theorem thin_pass {w : Nat} {ps : List Post} (hn : Net w ps) {xs : List Int} (hx : xs.length = w) : passAll (thinP w ps) xs = passAll ps xs := by
  have z := thinN_pass hn hx ps.length (Nat.le_refl _)
  rw [List.take_length] at z
  exact z
theorem thinN_at {w : Nat} {ps : List Post} : ∀ n, n ≤ ps.length → ∀ m, m < (thinN w ps n).length → ∃ j, j < n ∧ (thinN w ps n).take m = thinN w ps j ∧ (thinN w ps n).getD m (0, 0) = ps.getD j (0, 0) ∧ ((rowsP w).find? (actB ps j)).isSome = true
  | 0, _, m, hm => by simp [thinN] at hm
  | n + 1, hn, m, hm => by
    have e : thinN w ps (n + 1) = thinN w ps n ++ (if ((rowsP w).find? (actB ps n)).isSome = true then [ps.getD n (0, 0)] else []) := rfl
    by_cases c : m < (thinN w ps n).length
    · obtain ⟨j, hj, h1, h2, h3⟩ := thinN_at n (by omega) m c
      refine ⟨j, by omega, ?_, ?_, h3⟩
      · rw [e, List.take_append_of_le_length (by omega), h1]
      · rw [e, List.getD_eq_getElem?_getD, List.getElem?_append_left c, ← List.getD_eq_getElem?_getD, h2]
    · rw [e] at hm ⊢
      by_cases c2 : ((rowsP w).find? (actB ps n)).isSome = true
      · rw [if_pos c2] at hm ⊢
        rw [List.length_append] at hm
        have hm' : m = (thinN w ps n).length := by
          have : m < (thinN w ps n).length + 1 := hm
          omega
        subst hm'
        refine ⟨n, by omega, ?_, ?_, c2⟩
        · rw [List.take_append_of_le_length (Nat.le_refl _), List.take_length]
        · rw [List.getD_eq_getElem?_getD, List.getElem?_append_right (Nat.le_refl _), Nat.sub_self]
          rfl
      · rw [if_neg c2, List.append_nil] at hm
        omega
theorem find_congr {rows : List (List Int)} {f g : List Int → Bool} (h : ∀ r ∈ rows, f r = g r) : rows.find? f = rows.find? g := by
  induction rows with
  | nil => rfl
  | cons r rows ih =>
    rw [List.find?_cons, List.find?_cons, h r List.mem_cons_self, ih fun q hq => h q (List.mem_cons_of_mem _ hq)]
theorem thin_lean {w : Nat} {ps : List Post} (hn : Net w ps) {m : Nat} (hm : m < (thinP w ps).length) : ((rowsP w).find? (actB (thinP w ps) m)).isSome = true := by
  obtain ⟨j, hj, h1, h2, h3⟩ := thinN_at ps.length (Nat.le_refl _) m hm
  have e : (rowsP w).find? (actB (thinP w ps) m) = (rowsP w).find? (actB ps j) := find_congr fun r hr => by
    unfold actB
    rw [show (thinP w ps).take m = thinN w ps j from h1, show (thinP w ps).getD m (0, 0) = ps.getD j (0, 0) from h2, thinN_pass hn (rowsP_row w r hr) j (by omega)]
  rw [e]
  exact h3
theorem thinN_all {w : Nat} {qs : List Post} (h : ∀ m, m < qs.length → ((rowsP w).find? (actB qs m)).isSome = true) : ∀ j, j ≤ qs.length → thinN w qs j = qs.take j
  | 0, _ => rfl
  | j + 1, hj => by
    have hp : qs[j]? = some qs[j] := List.getElem?_eq_getElem (by omega)
    show thinN w qs j ++ _ = _
    rw [thinN_all h j (by omega), if_pos (h j (by omega)), take_snoc hp, List.getD_eq_getElem?_getD, hp]
    rfl
theorem thin_again {w : Nat} {ps : List Post} (hn : Net w ps) : thinP w (thinP w ps) = thinP w ps := by
  have z := thinN_all (w := w) (qs := thinP w ps) (fun m hm => thin_lean hn hm) _ (Nat.le_refl _)
  rw [List.take_length] at z
  exact z
end PN

namespace L2
open PySem PySem.Spec PyProof.Rows
/-! ### zip of two lists, its pairs taken apart -/
section
variable {X : Cx} {pins : List (Addr × Obj)} {σ : St} {H : Hp} {s : Shared} {h' : Heap}
/-- several records of an iterator's own have turned -/
theorem Inv.turnedL {ch : List Addr} {t' : Nat} (I : Inv X pins σ H s) (hf : ∀ b ∈ ch, FpOk X pins H b) (k : ∀ b o, b ∉ ch → s.heap.get? b = some o → h'.get? b = some o) : Inv X pins σ H { s with heap := h', toks := t' } := by
  have nin : ∀ b u, H b = some u → b ∉ ch := fun b u e z => by have q := (hf b z).1; rw [e] at q; cases q
  refine I.step (g' := s.gens) (d' := s.drawn) (ch := ch) (fun b hb => ?_) (fun b o _ _ hc e _ => k b o hc e) (fun b o _ _ hc e _ => ⟨o.slots, k b o hc e⟩) (fun _ _ _ _ n => n)
    (fun b o hc e => ⟨o, k b o hc e⟩) (fun _ _ e => e) (fun _ _ _ e => e) (fun b ps e => ⟨#[], by rw [e]; simp⟩) (fun m hm => ?_) (fun b u e => ?_) I.bare
  · obtain ⟨_, f1, f2, f3, f4, f5⟩ := hf b hb
    exact ⟨f3, f1, f4, f5⟩
  · exact hm.at' fun o e' => k _ o (fun z => (hf _ z).2.1 rfl) e'
  · refine (I.hok b u e).stay (fun b' o' hb' e' => ?_) (fun b' hb' => hb') (fun b' xs' hb' => hb')
    rcases hb' with q' | q'
    · subst q'
      exact k _ _ (nin _ _ e) e'
    · exact k _ _ (nin _ _ q') e'
/-- the same, and a pair laid -/
theorem Inv.turnedPair {ch : List Addr} {t' : Nat} {x y : V} {u v : Value} (I : Inv X pins σ H s) (hf : ∀ b ∈ ch, FpOk X pins H b) (k : ∀ b o, b ∉ ch → s.heap.get? b = some o → h'.get? b = some o) (lt : ∀ b ∈ ch, b < s.heap.objs.size)
    (ru : RelV x u) (rv : RelV y v) (hT : h'.get? s.heap.objs.size = some { cls := .type "tuple", data := .seq #[u, v] }) : Inv X pins σ (upd H s.heap.objs.size (.tup [x, y])) { s with heap := h', toks := t' } := by
  have nin : ∀ b u, H b = some u → b ∉ ch := fun b u e z => by have q := (hf b z).1; rw [e] at q; cases q
  have hn : H s.heap.objs.size = none := I.hok.fresh (Nat.le_refl _)
  refine I.step (g' := s.gens) (d' := s.drawn) (ch := ch) (fun b hb => ?_) (fun b o _ _ hc e _ => k b o hc e) (fun b o _ _ hc e _ => ⟨o.slots, k b o hc e⟩) (fun b o _ h1 h3 => by rw [upd_ne (Nat.ne_of_lt (Heap.lt_size h1))]; exact h3)
    (fun b o hc e => ⟨o, k b o hc e⟩) (fun b xs' hb => by rw [upd_ne (ne_of_none hb hn)]; exact hb) (fun b o u' hb => by rw [upd_ne (ne_of_none hb hn)]; exact hb) (fun b ps hb => ⟨#[], by rw [upd_ne (ne_of_none hb hn)]; simpa using hb⟩) (fun m hm => ?_) (fun b o hb => ?_) I.bare
  · obtain ⟨_, f1, f2, f3, f4, f5⟩ := hf b hb
    exact ⟨f3, f1, f4, f5⟩
  · exact hm.at' fun o e' => k _ o (fun z => (hf _ z).2.1 rfl) e'
  · by_cases q : b = s.heap.objs.size
    · subst q
      rw [upd_same] at hb
      cases hb
      exact ⟨by show 2 ≤ sizeLine; decide, [u, v], .cons ru (.cons rv .nil), ⟨_, hT, rfl, _, rfl⟩⟩
    · rw [upd_ne q] at hb
      refine (I.hok b o hb).stay (fun b' o' hb' e' => ?_) (fun b' hb' => ?_) (fun b' xs' hb' => ?_)
      · rcases hb' with q' | q'
        · subst q'
          exact k _ _ (nin _ _ hb) e'
        · exact k _ _ (nin _ _ q') e'
      · rw [upd_ne (ne_of_none hb' hn)]; exact hb'
      · rw [upd_ne (ne_of_none hb' hn)]; exact hb'
end
def Itz (K : PySem.W.Frag) (a b : Addr) : It :=
  ⟨fun i H => ∃ xs ys x y, SqL K H a xs ∧ SqL K H b ys ∧ xs[i]? = some x ∧ ys[i]? = some y,
   fun i H x H' => ∃ p u v, x = .ref p ∧ H p = none ∧ H' = upd H p (.tup [u, v]) ∧ (∀ xs, SqL K H a xs → xs[i]? = some u) ∧ ∀ ys, SqL K H b ys → ys[i]? = some v,
   fun i H => ∃ xs ys, SqL K H a xs ∧ SqL K H b ys ∧ (xs.length ≤ i ∨ ys.length ≤ i)⟩
theorem turn_zip {P : Program} {w : World} {K : PySem.W.Frag} {es : List Expr} {k : Nat} {tp : Pos} (l1 l2 z TI TO i1 i2 : Addr) (D : ZipApart z TI TO i1 i2 l1 l2) :
    Turn P w K (.Tuple es k tp) (Itz K l1 l2) [z, TI, TO, i1, i2] z (fun i h => IsZip h z TI TO .none ∧ IsPair h TI (.ref i1) (.ref i2) ∧ (∃ a b, IsPair h TO a b) ∧ h.IsListIter i1 l1 i ∧ h.IsListIter i2 l2 i) where
  mem := by simp
  obj := fun i h st b hb => by
    obtain ⟨hz, hTI, ⟨a, b', hTO⟩, ⟨o1, e1, c1, d1⟩, ⟨o2, e2, c2, d2⟩⟩ := st
    simp only [List.mem_cons, List.not_mem_nil, or_false] at hb
    rcases hb with q | q | q | q | q
    · subst q
      exact ⟨_, hz, fun v z => by
        have z' : Data.fields _ = Data.cell v := z
        cases z'⟩
    · subst q
      exact ⟨_, hTI, fun v z => by
        have z' : Data.seq _ _ = Data.cell v := z
        cases z'⟩
    · subst q
      exact ⟨_, hTO, fun v z => by
        have z' : Data.seq _ _ = Data.cell v := z
        cases z'⟩
    · subst q
      exact ⟨o1, e1, fun v z => by rw [d1] at z; cases z⟩
    · subst q
      exact ⟨o2, e2, fun v z => by rw [d2] at z; cases z⟩
  keep := fun i h h' st k => by
    obtain ⟨hz, hTI, ⟨a, b', hTO⟩, h1, h2⟩ := st
    exact ⟨k z (by simp) _ hz, k TI (by simp) _ hTI, ⟨a, b', k TO (by simp) _ hTO⟩, h1.at fun o x => k i1 (by simp) o x, h2.at fun o x => k i2 (by simp) o x⟩
  item := by
    intro X hP hw hK hc i pins s σ H E I hf st hg
    subst hP hw hK
    obtain ⟨xs, ys, x, y, hq1, hq2, hx, hy⟩ := hg
    obtain ⟨its1, rv1, p1, _⟩ := I.list hq1
    obtain ⟨its2, rv2, p2, _⟩ := I.list hq2
    obtain ⟨u, hu, ru⟩ := rv1.get hx
    obtain ⟨v, hv, rv⟩ := rv2.get hy
    obtain ⟨hz, hTI, ⟨a, b, hTO⟩, h1, h2⟩ := st
    have zl := Heap.lt_size hz
    have TIl := Heap.lt_size hTI
    have TOl := Heap.lt_size hTO
    have i1l : i1 < s.heap.objs.size := by obtain ⟨o, e, _⟩ := h1; exact Heap.lt_size e
    have i2l : i2 < s.heap.objs.size := by obtain ⟨o, e, _⟩ := h2; exact Heap.lt_size e
    refine wpAny_pyNext_zip_item D hz hTI hTO h1 h2 p1.isList p2.isList (x := u) (y := v) (by simpa using hu) (by simpa using hv) fun h' hz' hTO' h1' h2' hT hsz hk => ?_
    refine ⟨_, rfl, ?_⟩
    refine wpAny_letOwnedTupleGo_zip (s := { s with heap := h' }) hz' fun h3 hz3 hs3 => ?_
    have keep2 : ∀ b o, b ∉ [z, TO, i1, i2] → s.heap.get? b = some o → h3.get? b = some o := fun b o hb e => by
      simp only [List.mem_cons, List.not_mem_nil, or_false, not_or] at hb
      exact (hs3.2 b hb.1).trans (hk b o hb.1 hb.2.1 hb.2.2.1 hb.2.2.2 e)
    have sub : ∀ b ∈ [z, TO, i1, i2], b ∈ [z, TI, TO, i1, i2] := fun b hb => by
      simp only [List.mem_cons, List.not_mem_nil, or_false] at hb ⊢
      rcases hb with q | q | q | q
      · exact .inl q
      · exact .inr (.inr (.inl q))
      · exact .inr (.inr (.inr (.inl q)))
      · exact .inr (.inr (.inr (.inr q)))
    have hT3 : h3.get? s.heap.objs.size = some { cls := .type "tuple", data := .seq #[u, v] } := (hs3.2 _ (Nat.ne_of_gt zl)).trans hT
    have I2 : Inv X pins σ (upd H s.heap.objs.size (.tup [x, y])) { s with heap := h3, toks := s.toks } := I.turnedPair (ch := [z, TO, i1, i2]) (fun b hb => hf b (sub b hb)) keep2 (fun b hb => by
      simp only [List.mem_cons, List.not_mem_nil, or_false] at hb
      rcases hb with q | q | q | q <;> subst q <;> assumption) ru rv hT3
    refine ⟨.ref s.heap.objs.size, _, I2, rfl, ⟨_, x, y, rfl, I.hok.fresh (Nat.le_refl _), rfl, fun zs hy' => by rw [I.list_inj hy' hq1]; exact hx, fun zs hy' => by rw [I.list_inj hy' hq2]; exact hy⟩, ⟨hz3, ?_, ⟨u, v, ?_⟩, ?_, ?_⟩, fun b hb => ?_⟩
    · exact (hs3.2 TI D.TIz).trans (hk TI _ D.TIz D.TITO D.TIi1 D.TIi2 hTI)
    · exact (hs3.2 TO D.TOz).trans hTO'
    · exact h1'.at fun o e => (hs3.2 i1 D.i1z).trans e
    · exact h2'.at fun o e => (hs3.2 i2 D.i2z).trans e
    · rw [upd_ne]
      · exact (hf b hb).1
      · simp only [List.mem_cons, List.not_mem_nil, or_false] at hb
        rcases hb with q | q | q | q | q <;> subst q <;> exact Nat.ne_of_lt (by assumption)
  done := by
    intro X hP hw hK hc i pins s σ H E I hf st hg
    subst hP hw hK
    obtain ⟨xs, ys, hq1, hq2, hx⟩ := hg
    obtain ⟨its1, rv1, p1, _⟩ := I.list hq1
    obtain ⟨its2, rv2, p2, _⟩ := I.list hq2
    obtain ⟨hz, hTI, ⟨a, b, hTO⟩, h1, h2⟩ := st
    have hl1 := rv1.length
    have hl2 := rv2.length
    refine wpAny_pyNext_zip_end (I.ok.hd hc) D hz hTI hTO h1 h2 p1.isList p2.isList ?_ fun h' eb => ⟨rfl, I.turnedL (ch := [z, TO, i1, i2]) (t' := s.toks) (fun b hb => hf b ?_) (fun b o hb e => ?_)⟩
    · rcases hx with q | q
      · exact .inl (by simp; omega)
      · exact .inr (by simp; omega)
    · simp only [List.mem_cons, List.not_mem_nil, or_false] at hb ⊢
      rcases hb with q | q | q | q
      · exact .inl q
      · exact .inr (.inr (.inl q))
      · exact .inr (.inr (.inr (.inl q)))
      · exact .inr (.inr (.inr (.inr q)))
    · simp only [List.mem_cons, List.not_mem_nil, or_false, not_or] at hb
      exact eb b o hb.1 hb.2.1 hb.2.2.1 hb.2.2.2 e
  self := fun _ _ _ _ _ st h => wpAny_pyIter_zip st.1 h
section
variable {X : Cx}
def iZip (K : PySem.W.Frag) (ta : TA) : TI := fun σ H R => ta σ H fun vs H1 => ∃ a b, vs = [.ref a, .ref b] ∧ (∃ xs, SqL K H1 a xs) ∧ (∃ ys, SqL K H1 b ys) ∧ R (Itz K a b) H1
theorem pi_zip {es : List Expr} {k : Nat} {tp : Pos} {a b : Expr} {ta : TA} {p pos : Pos} (hg : Gl X "zip") (hm : X.mg "zip" = none) (ha : PA X [a, b] ta) (hs : starEach [a, b] X.env = [(false, eval a X.env), (false, eval b X.env)] := by rfl) (hs2 : starEach [b] X.env = [(false, eval b X.env)] := by rfl) :
    PI X (.Tuple es k tp) (.Call (.Name "zip" p) [a, b] [] pos) (iZip X.K ta) := by
  intro pins s σ H R I h
  refine Call_ (ld_blt I hg hm boot_zip (PyProof.Rows.callWith_type1 (thn (ha pos pins s σ H _ I h) fun us s1 ⟨vs, H1, I1, r1, q1⟩ => ?_) (by rw [hs, hs2]) (by rw [hs2]; rfl)))
  obtain ⟨a', b', e, ⟨xs, hq⟩, ⟨ys, hq'⟩, q⟩ := q1
  subst e
  cases r1 with
  | cons r rr =>
    cases rr with
    | cons r' rr =>
      cases rr
      cases r
      cases r'
      obtain ⟨its, rv, p, hz⟩ := I1.list hq
      obtain ⟨its', rv', p', hz'⟩ := I1.list hq'
      have a1 : a' < s1.heap.objs.size := by obtain ⟨_, e, _⟩ := p.isList; exact Heap.lt_size e
      have a2 : b' < s1.heap.objs.size := by obtain ⟨_, e, _⟩ := p'.isList; exact Heap.lt_size e
      refine call_zip_2 p.isList p'.isList fun h' gz gTI gTO g1 g2 hsz hk => ?_
      refine wpAny_pyIter_zip (s := { s1 with heap := h' }) gz ?_
      have I2 : Inv X pins σ H1 { s1 with heap := h' } := I1.kept (t' := s1.toks) hk
      refine ⟨s1.heap.objs.size + 4, [s1.heap.objs.size + 4, s1.heap.objs.size + 2, s1.heap.objs.size + 3, s1.heap.objs.size, s1.heap.objs.size + 1], _, _, H1, rfl, I2, turn_zip a' b' _ _ _ _ _ (zipApart_new a1 a2), ⟨gz, gTI, ⟨_, _, gTO⟩, g1, g2⟩, fun b hb => ?_, q⟩
      have le : s1.heap.objs.size ≤ b := by
        simp only [List.mem_cons, List.not_mem_nil, or_false] at hb
        rcases hb with q | q | q | q | q <;> subst q
        · exact Nat.le_add_right _ _
        · exact Nat.le_add_right _ _
        · exact Nat.le_add_right _ _
        · exact Nat.le_refl _
        · exact Nat.le_add_right _ _
      exact I1.fpOk le (I1.hok.fresh le)
end
theorem for_zip {K : PySem.W.Frag} {a b : Addr} {xs ys : List V} {g : TG} {tb : TS} {D : Ends} {σ : St} {H : Hp} (Pv : Nat → St → Hp → Prop) (hle : xs.length = ys.length) (h0 : Pv 0 σ H) (hl : ∀ i σ H, i ≤ xs.length → Pv i σ H → SqL K H a xs ∧ SqL K H b ys)
    (hs : ∀ i x y p σ H, xs[i]? = some x → ys[i]? = some y → Pv i σ H → H p = none → g (.ref p) σ (upd H p (.tup [x, y])) fun σ2 H2 => tb { D with nx := Pv (i + 1), ct := Pv (i + 1), bk := D.nx } σ2 H2) (hd : ∀ σ H, Pv xs.length σ H → D.nx σ H) :
    ∃ W : Nat → Nat → St → Hp → Prop, (∃ m, W 0 m σ H) ∧ ∀ i m σ H, W i m σ H →
      ((Itz K a b).stop i H ∧ D.nx σ H) ∨ ((Itz K a b).go i H ∧ ∃ N : St → Hp → Prop, (∀ σ' H', N σ' H' → ∃ m', m' < m ∧ W (i + 1) m' σ' H') ∧ ∀ x H', (Itz K a b).yld i H x H' → g x σ H' fun σ2 H2 => tb { D with nx := N, ct := N, bk := D.nx } σ2 H2) := by
  refine ⟨fun i m σ H => m = xs.length - i ∧ i ≤ xs.length ∧ Pv i σ H, ⟨xs.length, by simp, Nat.zero_le _, h0⟩, ?_⟩
  rintro i m σ H ⟨rfl, hi, p⟩
  obtain ⟨q1, q2⟩ := hl i σ H hi p
  by_cases hlt : i < xs.length
  · have hlt2 : i < ys.length := hle ▸ hlt
    refine .inr ⟨⟨xs, ys, xs[i], ys[i], q1, q2, by simp [hlt], by simp [hlt2]⟩, Pv (i + 1), fun σ' H' p' => ⟨xs.length - (i + 1), by omega, rfl, hlt, p'⟩, fun x H' y => ?_⟩
    obtain ⟨t, u, v, e, ht, e', y1, y2⟩ := y
    subst e e'
    exact hs i u v t σ _ (y1 xs q1) (y2 ys q2) p ht
  · have e : i = xs.length := by omega
    subst e
    exact .inl ⟨⟨xs, ys, q1, q2, .inl (Nat.le_refl _)⟩, hd σ H p⟩
section
variable {g : TG} {tt : TT} {te : TE} {own : Nat} {fr : List Nat} {σ : St} {H : Hp} {R : Hp → Prop} {D : Addr}
/-- the same in a comprehension with a test -/
theorem lcI_zip {K : PySem.W.Frag} {a b : Addr} {xs ys : List V} (hle : xs.length = ys.length) (Pv : Nat → St → Hp → Prop) (h0 : Pv 0 (lcStart own fr σ) (upd H D (.lst []))) (hl : ∀ i σ H, i ≤ xs.length → Pv i σ H → SqL K H a xs ∧ SqL K H b ys)
    (hs : ∀ i x y p σ H, xs[i]? = some x → ys[i]? = some y → Pv i σ H → H p = none → g (.ref p) σ (upd H p (.tup [x, y])) fun σ3 H3 => tt σ3 H3 fun b H5 => if b = true then te σ3 H5 fun y H4 => LcEnd Pv D xs.length i σ3 y H4 else LcSkip Pv xs.length i σ3 H5)
    (hd : ∀ σ H, Pv xs.length σ H → R H) :
    ∃ W : Nat → Nat → St → Hp → Prop, (∃ m, W 0 m (lcStart own fr σ) (upd H D (.lst []))) ∧ ∀ i m σ' H', W i m σ' H' →
      ((Itz K a b).stop i H' ∧ R H') ∨ ((Itz K a b).go i H' ∧ ∀ x H2, (Itz K a b).yld i H' x H2 → g x σ' H2 fun σ3 H3 => tt σ3 H3 fun b H5 => if b = true then te σ3 H5 fun y H4 => ∃ ys, H4 D = some (.lst ys) ∧ ys.length < sizeLine ∧ ∃ m', m' < m ∧ W (i + 1) m' σ3 (upd H4 D (.lst (ys ++ [y]))) else ∃ m', m' < m ∧ W (i + 1) m' σ3 H5) := by
  refine lcI_of (n := xs.length) (J := Itz K a b) Pv h0 (fun i σ H hi p => ?_) (fun i x H2 σ H hi p y => ?_) fun σ H p => ?_
  · obtain ⟨q1, q2⟩ := hl i σ H (Nat.le_of_lt hi) p
    exact ⟨xs, ys, xs[i], ys[i]'(hle ▸ hi), q1, q2, by simp [hi], by simp [hle ▸ hi]⟩
  · obtain ⟨q1, q2⟩ := hl i σ H (Nat.le_of_lt hi) p
    obtain ⟨t, u, v, e, ht, e', y1, y2⟩ := y
    subst e e'
    exact hs i u v t σ _ (y1 xs q1) (y2 ys q2) p ht
  · obtain ⟨q1, q2⟩ := hl _ σ H (Nat.le_refl _) p
    exact ⟨⟨xs, ys, q1, q2, .inl (Nat.le_refl _)⟩, hd σ H p⟩
end
end L2

namespace L2
open PySem PySem.Spec PyProof.Rows
/-! ### range(a, b, c), c above nought -/
def Its (lo c : Int) (n : Nat) : It := ⟨fun i _ => i < n, fun i H x H' => H' = H ∧ x = .int (lo + (i : Nat) * c), fun i _ => n ≤ i⟩
theorem turn_step {P : Program} {w : World} {K : PySem.W.Frag} {tg : Expr} (it : Addr) (lo c : Int) (n : Nat) : Turn P w K tg (Its lo c n) [it] it (fun i h => IsRangeIter h it (lo + (i : Nat) * c) ((n : Int) - (i : Nat)) c) where
  mem := by simp
  obj := fun i h st b hb => by
    have e : b = it := by simpa using hb
    subst e
    exact ⟨_, st, fun v z => by
      have z' : Data.fields _ = Data.cell v := z
      cases z'⟩
  keep := fun i h h' st k => k it (by simp) _ st
  item := by
    intro X hP hw hK hc i pins s σ H E I hf st hg
    subst hP hw hK
    obtain ⟨f0, f1, f2, f3, f4, f5⟩ := hf it (by simp)
    have W := Walks.range (prog := X.prog) (w := X.w) (I.ok.hd hc) it lo c n
    refine W.item i s _ _ hg st fun v h' tk hv st' kk => ?_
    obtain ⟨t, rfl⟩ := hv
    have I1 : Inv X pins σ H { s with heap := h', toks := tk } := I.turned (fun b o hb e => kk b o (by simpa using hb) e) f0 f1 f3 f4 f5
    exact ⟨_, rfl, go_of (s := { s with heap := h', toks := tk }) (n := "range_iterator") st' rfl rfl (by decide) ⟨.int (lo + (i : Nat) * c), H, I1, ⟨t, rfl⟩, ⟨rfl, rfl⟩, st', fun b hb => (hf b hb).1⟩⟩
  done := by
    intro X hP hw hK hc i pins s σ H E I hf st hg
    subst hP hw hK
    obtain ⟨f0, f1, f2, f3, f4, f5⟩ := hf it (by simp)
    exact wpAny_pyNext_range_end (I.ok.hd hc) st (by have : n ≤ i := hg; omega) fun h' eb => ⟨rfl, I.turned (t' := s.toks) (fun b o hb e => eb b o hb e) f0 f1 f3 f4 f5⟩
  self := fun _ _ _ _ _ st h => wpAny_pyIter_rangeiter st h
section
variable {X : Cx} {tg : Expr}
def iRngS (ta : TA) : TI := fun σ H R => ta σ H fun vs H1 => ∃ (i j c : Int) (n : Nat), vs = [.int i, .int j, .int c] ∧ (-100000 ≤ i ∧ i < 100000 ∧ -100000 ≤ j ∧ j < 100000 ∧ 0 < c ∧ c < 100000) ∧ (if i < j then (j - i - 1) / c + 1 else 0) = (n : Int) ∧ R (Its i c n) H1
theorem small_step {a b c : Int} {n : Nat} (h1 : -100000 ≤ a) (h2 : a < 100000) (h3 : -100000 ≤ b) (h4 : b < 100000) (h5 : 0 < c) (h6 : c < 100000) (e : (if a < b then (b - a - 1) / c + 1 else 0) = (n : Int)) : Builtin.Range.small a b c = true ∧ Builtin.Range.rangeSize a b c = (n : Int) := by
  have e' : Builtin.Range.rangeSize a b c = (n : Int) := by
    unfold Builtin.Range.rangeSize
    rw [if_pos h5]
    exact e
  refine ⟨?_, e'⟩
  unfold Builtin.Range.small
  rw [e']
  have hz0 : 0 ≤ (n : Int) := by omega
  have hz : (n : Int) ≤ 200000 := by
    rw [← e]
    split
    · have : (b - a - 1) / c ≤ b - a - 1 := Int.ediv_le_self _ (by omega)
      omega
    · omega
  generalize (n : Int) = z at hz hz0
  simp only [Builtin.Range.rangeFitsLong, Bool.and_eq_true, Bool.or_eq_true, decide_eq_true_eq, beq_iff_eq]
  rw [if_pos h5, Bool.and_eq_true, decide_eq_true_eq, decide_eq_true_eq]
  omega
theorem pi_rangeS {a b c : Expr} {ta : TA} {p pos : Pos} (hg : Gl X "range") (hm : X.mg "range" = none) (ha : PA X [a, b, c] ta) (hs : starEach [a, b, c] X.env = [(false, eval a X.env), (false, eval b X.env), (false, eval c X.env)] := by rfl)
    (hs2 : starEach [b, c] X.env = [(false, eval b X.env), (false, eval c X.env)] := by rfl) : PI X tg (.Call (.Name "range" p) [a, b, c] [] pos) (iRngS ta) := by
  intro pins s σ H R I h
  refine Call_ (ld_blt I hg hm boot_range (PyProof.Rows.callWith_type1 (thn (ha pos pins s σ H _ I h) fun us s1 ⟨vs, H1, I1, r1, q1⟩ => ?_) (by rw [hs, hs2]) (by rw [hs2]; rfl)))
  obtain ⟨i, j, c, n, e, ⟨q1, q2, q3, q4, q5, q6⟩, en, q⟩ := q1
  subst e
  cases r1 with
  | cons r rr =>
    cases rr with
    | cons r' rr =>
      cases rr with
      | cons r2 rr =>
        cases rr
        obtain ⟨t, rfl⟩ := r
        obtain ⟨t', rfl⟩ := r'
        obtain ⟨t2, rfl⟩ := r2
        obtain ⟨sm, sz⟩ := small_step q1 q2 q3 q4 q5 q6 en
        refine call_range_3 (by omega) ?_ (Or.inl (PyProof.noPylong_small (by omega)))
        refine wpAny_pyIter_range (IsRange.new ..) sm ?_
        have I2 : Inv X pins σ H1 { s1 with heap := s1.heap.push { cls := .type "range", data := .fields #[.int i t, .int j t', .int c t2] }, toks := s1.toks } := I1.kept fun b o e => Heap.get?_push_of_some _ e
        refine ⟨_, [_], _, _, H1, rfl, I2.kept (t' := s1.toks) fun b o e => Heap.get?_push_of_some _ e, turn_step _ i c n, ?_, fun b hb => ?_, q⟩
        · have e1 : i + ((0 : Nat) : Int) * c = i := by rw [show ((0 : Nat) : Int) = 0 from rfl, Int.zero_mul]; omega
          show IsRangeIter _ _ (i + ((0 : Nat) : Int) * c) ((n : Int) - ((0 : Nat) : Int)) c
          rw [e1, show ((n : Int) - ((0 : Nat) : Int)) = Builtin.Range.rangeSize i j c by rw [sz]; omega]
          exact Heap.get?_push_size _ rfl
        · have e := List.mem_singleton.mp hb
          subst e
          exact I2.fpOk (Nat.le_refl _) (I2.hok.fresh (Nat.le_refl _))
end
section
variable {g : TG} {te : TE} {own : Nat} {fr : List Nat} {σ : St} {H : Hp} {R : Hp → Prop} {D : Addr}
theorem lc_step {lo c : Int} {n : Nat} (Pv : Nat → St → Hp → Prop) (h0 : Pv 0 (lcStart own fr σ) (upd H D (.lst [])))
    (hs : ∀ i σ H, i < n → Pv i σ H → g (.int (lo + (i : Nat) * c)) σ H fun σ3 H3 => te σ3 H3 fun y H4 => LcEnd Pv D n i σ3 y H4) (hd : ∀ σ H, Pv n σ H → R H) :
    ∃ W : Nat → Nat → St → Hp → Prop, (∃ m, W 0 m (lcStart own fr σ) (upd H D (.lst []))) ∧ ∀ i m σ' H', W i m σ' H' →
      ((Its lo c n).stop i H' ∧ R H') ∨ ((Its lo c n).go i H' ∧ ∀ x H2, (Its lo c n).yld i H' x H2 → g x σ' H2 fun σ3 H3 => te σ3 H3 fun y H4 => ∃ ys, H4 D = some (.lst ys) ∧ ys.length < sizeLine ∧ ∃ m', m' < m ∧ W (i + 1) m' σ3 (upd H4 D (.lst (ys ++ [y])))) := by
  refine lc_of (n := n) Pv h0 (fun i σ H hi p => hi) (fun i x H2 σ H hi p y => ?_) (fun σ H p => ⟨Nat.le_refl _, hd σ H p⟩)
  obtain ⟨e, y⟩ := y
  subst e y
  exact hs i σ _ hi p
end
end L2

namespace L2
open PySem PySem.Spec PyProof.Rows

/-! ### lists of pairs as tables -/
section
variable {κ : Type} [DecidableEq κ]
def valV (kvs : List (κ × V)) (k : κ) : Option V := (kvs.find? fun kv => decide (kv.1 = k)).map (·.2)
/-- in its place, or at the end -/
def putK (kvs : List (κ × V)) (k : κ) (v : V) : List (κ × V) :=
  if (kvs.any fun kv => decide (kv.1 = k)) = true then kvs.map (fun kv => if kv.1 = k then (kv.1, v) else kv) else kvs ++ [(k, v)]
def dropK (kvs : List (κ × V)) (k : κ) : List (κ × V) := kvs.filter fun kv => decide (kv.1 ≠ k)

theorem valV_nil {k : κ} : valV ([] : List (κ × V)) k = none := rfl
theorem valV_pos {p : κ × V} {r : List (κ × V)} {k : κ} (e : p.1 = k) : valV (p :: r) k = some p.2 := by simp [valV, List.find?_cons, e]
theorem valV_neg {p : κ × V} {r : List (κ × V)} {k : κ} (e : ¬ p.1 = k) : valV (p :: r) k = valV r k := by simp [valV, List.find?_cons, e]
theorem valV_any (k : κ) : ∀ kvs : List (κ × V), (kvs.any fun kv => decide (kv.1 = k)) = (valV kvs k).isSome
  | [] => rfl
  | p :: r => by
    rw [List.any_cons]
    by_cases e : p.1 = k
    · simp only [valV_pos e, decide_eq_true e, Bool.true_or, Option.isSome_some]
    · rw [valV_neg e, decide_eq_false e, Bool.false_or]; exact valV_any k r
theorem valV_map (k j : κ) (y : V) : ∀ kvs : List (κ × V), valV (kvs.map fun kv => if kv.1 = k then (kv.1, y) else kv) j = (valV kvs j).map fun x => if j = k then y else x
  | [] => rfl
  | p :: r => by
    have ih := valV_map k j y r
    rw [List.map_cons]
    by_cases h : p.1 = k
    · rw [if_pos h]
      by_cases e : p.1 = j
      · rw [valV_pos (p := (p.1, y)) e, valV_pos e, Option.map_some, if_pos (e.symm.trans h)]
      · rw [valV_neg (p := (p.1, y)) e, valV_neg e, ih]
    · rw [if_neg h]
      by_cases e : p.1 = j
      · rw [valV_pos (p := p) e, valV_pos e, Option.map_some, if_neg (fun z => h (e.trans z))]
      · rw [valV_neg (p := p) e, valV_neg e, ih]
theorem valV_snoc (k j : κ) (y : V) : ∀ kvs : List (κ × V), valV kvs k = none → valV (kvs ++ [(k, y)]) j = if j = k then some y else valV kvs j
  | [], _ => by
    by_cases e : k = j
    · rw [if_pos e.symm]; exact valV_pos (p := (k, y)) e
    · rw [if_neg (fun z => e z.symm)]; exact valV_neg (p := (k, y)) e
  | p :: r, hn => by
    rw [List.cons_append]
    have hk : ¬ p.1 = k := fun z => by rw [valV_pos z] at hn; cases hn
    rw [valV_neg hk] at hn
    have ih := valV_snoc k j y r hn
    by_cases e : p.1 = j
    · rw [valV_pos e, valV_pos e, if_neg (fun z => hk (e.trans z))]
    · rw [valV_neg e, valV_neg e, ih]
theorem valV_put (kvs : List (κ × V)) (k j : κ) (y : V) : valV (putK kvs k y) j = if j = k then some y else valV kvs j := by
  unfold putK
  by_cases a : (kvs.any fun kv => decide (kv.1 = k)) = true
  · rw [if_pos a, valV_map]
    rw [valV_any] at a
    by_cases e : j = k
    · obtain ⟨x, hx⟩ := Option.isSome_iff_exists.mp a
      rw [if_pos e, e, hx, Option.map_some, if_pos rfl]
    · rw [if_neg e]
      cases valV kvs j with
      | none => rfl
      | some x => rw [Option.map_some, if_neg e]
  · rw [if_neg a]
    refine valV_snoc k j y kvs ?_
    rw [valV_any] at a
    cases q : valV kvs k with
    | none => rfl
    | some x => rw [q] at a; exact (a rfl).elim
theorem length_putK (kvs : List (κ × V)) (k : κ) (v : V) : (putK kvs k v).length ≤ kvs.length + 1 := by
  unfold putK
  split
  · rw [List.length_map]; omega
  · rw [List.length_append, List.length_cons, List.length_nil]; omega
theorem putK_new {kvs : List (κ × V)} {k : κ} (v : V) (h : valV kvs k = none) : putK kvs k v = kvs ++ [(k, v)] := by
  unfold putK
  rw [valV_any, h]
  exact if_neg (by decide)

theorem RelO.isSome_eq {o : Option V} {u : Option Value} (r : RelO o u) : o.isSome = u.isSome := by
  cases o with
  | none => cases u with
    | none => rfl
    | some _ => exact (show False from r).elim
  | some _ => cases u with
    | none => exact (show False from r).elim
    | some _ => rfl
theorem RelO.getD {o : Option V} {u : Option Value} {d : V} {d' : Value} (r : RelO o u) (rd : RelV d d') : RelV (o.getD d) (u.getD d') := by
  cases o with
  | none => cases u with
    | none => exact rd
    | some _ => exact (show False from r).elim
  | some _ => cases u with
    | none => exact (show False from r).elim
    | some _ => exact r

/-- raw tables of the same keys -/
theorem KV.val {kvs : List (κ × V)} {vs : List (κ × Value)} (r : KV kvs vs) (k : κ) : RelO (valV kvs k) (valueAt vs k) := by
  unfold KV at r
  induction r with
  | nil => exact True.intro
  | @cons p q ps qs h t ih =>
    obtain ⟨h1, h2⟩ := h
    by_cases e : p.1 = k
    · have e' : q.1 = k := h1.symm.trans e
      have b : valueAt (q :: qs) k = some q.2 := by simp [valueAt, List.find?_cons, e']
      rw [valV_pos e, b]; exact h2
    · have e' : ¬ q.1 = k := fun z => e (h1.trans z)
      have b : valueAt (q :: qs) k = valueAt qs k := by simp [valueAt, List.find?_cons, e']
      rw [valV_neg e, b]; exact ih
theorem KV.any {kvs : List (κ × V)} {vs : List (κ × Value)} (r : KV kvs vs) (k : κ) : (kvs.any fun kv => decide (kv.1 = k)) = vs.any fun kv => decide (kv.1 = k) := by
  unfold KV at r
  induction r with
  | nil => rfl
  | cons h t ih => rw [List.any_cons, List.any_cons, ih, h.1]
theorem KV.repl {kvs : List (κ × V)} {vs : List (κ × Value)} (r : KV kvs vs) (k : κ) {y : V} {u : Value} (ry : RelV y u) :
    KV (kvs.map fun kv => if kv.1 = k then (kv.1, y) else kv) (vs.map fun kv => if kv.1 = k then (kv.1, u) else kv) := by
  unfold KV at r ⊢
  induction r with
  | nil => exact .nil
  | @cons p q ps qs h t ih =>
    rw [List.map_cons, List.map_cons]
    refine .cons ?_ ih
    obtain ⟨h1, h2⟩ := h
    by_cases e : p.1 = k
    · rw [if_pos e, if_pos (h1.symm.trans e)]; exact ⟨h1, ry⟩
    · rw [if_neg e, if_neg (fun z => e (h1.trans z))]; exact ⟨h1, h2⟩
theorem KV.put {kvs : List (κ × V)} {vs : List (κ × Value)} (r : KV kvs vs) (k : κ) {y : V} {u : Value} (ry : RelV y u) : KV (putK kvs k y) (stored vs k u) := by
  unfold putK stored
  rw [r.any k]
  by_cases e : (vs.any fun kv => decide (kv.1 = k)) = true
  · rw [if_pos e, if_pos e]; exact r.repl k ry
  · rw [if_neg e, if_neg e]; exact Paired.snoc r ⟨rfl, ry⟩
theorem KV.drop {kvs : List (κ × V)} {vs : List (κ × Value)} (r : KV kvs vs) (k : κ) : KV (dropK kvs k) (without vs k) := by
  unfold KV at r ⊢
  unfold dropK without
  induction r with
  | nil => exact .nil
  | @cons p q ps qs h t ih =>
    obtain ⟨h1, h2⟩ := h
    rw [List.filter_cons, List.filter_cons]
    by_cases e : p.1 = k
    · have a : ¬ decide (p.1 ≠ k) = true := by simp [e]
      have b : ¬ decide (q.1 ≠ k) = true := by simp [h1.symm.trans e]
      rw [if_neg a, if_neg b]; exact ih
    · have e' : ¬ q.1 = k := fun z => e (h1.trans z)
      have a : decide (p.1 ≠ k) = true := by simp [e]
      have b : decide (q.1 ≠ k) = true := by simp [e']
      rw [if_pos a, if_pos b]; exact .cons ⟨h1, h2⟩ ih
theorem KV.keys {kvs : List (κ × V)} {vs : List (κ × Value)} (r : KV kvs vs) : kvs.map (·.1) = vs.map (·.1) := by
  unfold KV at r
  induction r with
  | nil => rfl
  | cons h t ih => rw [List.map_cons, List.map_cons, ih, h.1]
theorem KV.length {kvs : List (κ × V)} {vs : List (κ × Value)} (r : KV kvs vs) : kvs.length = vs.length := Paired.length r
theorem dropK_le (kvs : List (κ × V)) (k : κ) : (dropK kvs k).length ≤ kvs.length := List.length_filter_le _ _
end


/-! ### a tracked dict, its keys ints and texts or tuples of these -/
theorem kV_is {P : Program} {w : World} {k : Key} {u : Value} (r : RelV (kV k) u) : (mixKind P w).is k u = true := by
  cases k with
  | inl i => obtain ⟨t, e⟩ := (show ∃ t, u = Value.int i t from r); subst e; exact mixKind_int P w i t
  | inr x => obtain ⟨t, e⟩ := (show ∃ t, u = Value.str x t from r); subst e; exact mixKind_str P w x t
theorem kV_inj {a b : Key} (e : kV a = kV b) : a = b := by
  cases a with
  | inl i => cases b with
    | inl j => have e' : V.int i = V.int j := e; injection e' with e'; rw [e']
    | inr y => exact nomatch (show V.int i = V.str y from e)
  | inr x => cases b with
    | inl j => exact nomatch (show V.str x = V.int j from e)
    | inr y => have e' : V.str x = V.str y := e; injection e' with e'; rw [e']
theorem kVs_inj : ∀ {a b : List Key}, a.map kV = b.map kV → a = b
  | [], [], _ => rfl
  | [], _ :: _, e => by simp at e
  | _ :: _, [], e => by simp at e
  | x :: xs, y :: ys, e => by
    rw [List.map_cons, List.map_cons] at e
    injection e with e1 e2
    rw [kV_inj e1, kVs_inj e2]
theorem items_are {P : Program} {w : World} : ∀ {ks : List Key} {us : List Value}, Vals (ks.map kV) us → ItemsAre (mixKind P w) ks us
  | [], _, r => by rw [List.map_nil] at r; cases r; exact .nil
  | k :: ks, _, r => by
    rw [List.map_cons] at r
    cases r with
    | cons h t => exact .cons (kV_is h) (items_are t)

/-- raw entries of a dict with tuple keys -/
abbrev KT (H : Hp) : List (List Key × V) → List (List Key × Addr × Value) → Prop := Paired fun p q => p.1 = q.1 ∧ H q.2.1 = some (.tup (p.1.map kV)) ∧ RelV p.2 q.2.2
theorem KT.val {H : Hp} {kvs : List (List Key × V)} {xs : List (List Key × Addr × Value)} (r : KT H kvs xs) (k : List Key) : RelO (valV kvs k) ((atKey xs k).map (·.2)) := by
  induction r with
  | nil => exact True.intro
  | @cons p q ps qs h t ih =>
    obtain ⟨h1, _, h2⟩ := h
    by_cases e : p.1 = k
    · have e' : q.1 = k := h1.symm.trans e
      have b : atKey (q :: qs) k = some q.2 := by simp [atKey, List.find?_cons, e']
      rw [valV_pos e, b]; exact h2
    · have e' : ¬ q.1 = k := fun z => e (h1.trans z)
      have b : atKey (q :: qs) k = atKey qs k := by simp [atKey, List.find?_cons, e']
      rw [valV_neg e, b]; exact ih
theorem KT.repl {H : Hp} {kvs : List (List Key × V)} {xs : List (List Key × Addr × Value)} (r : KT H kvs xs) (k : List Key) {y : V} {u : Value} (ry : RelV y u) :
    KT H (kvs.map fun kv => if kv.1 = k then (kv.1, y) else kv) (xs.map (putAt k u)) := by
  induction r with
  | nil => exact .nil
  | @cons p q ps qs h t ih =>
    rw [List.map_cons, List.map_cons]
    refine .cons ?_ ih
    obtain ⟨h1, h2, h3⟩ := h
    unfold putAt
    by_cases e : p.1 = k
    · rw [if_pos e, if_pos (h1.symm.trans e)]; exact ⟨h1, h2, ry⟩
    · rw [if_neg e, if_neg (fun z => e (h1.trans z))]; exact ⟨h1, h2, h3⟩
theorem KT.put {H : Hp} {kvs : List (List Key × V)} {xs : List (List Key × Addr × Value)} (r : KT H kvs xs) (k : List Key) {b : Addr} {y : V} {u : Value} (hb : H b = some (.tup (k.map kV))) (ry : RelV y u) :
    KT H (putK kvs k y) (storedH xs k b u) := by
  have e : (kvs.any fun kv => decide (kv.1 = k)) = (atKey xs k).isSome := by
    rw [valV_any, (r.val k).isSome_eq, Option.isSome_map]
  unfold putK storedH
  rw [e]
  by_cases q : (atKey xs k).isSome = true
  · rw [if_pos q, if_pos q]; exact r.repl k ry
  · rw [if_neg q, if_neg q]; exact Paired.snoc r ⟨rfl, hb, ry⟩
theorem KT.keeps {H H' : Hp} {kvs : List (List Key × V)} {xs : List (List Key × Addr × Value)} (r : KT H kvs xs) (ht : ∀ b ys, H b = some (.tup ys) → H' b = some (.tup ys)) : KT H' kvs xs :=
  Paired.mapP r fun _ _ z => ⟨z.1, ht _ _ z.2.1, z.2.2⟩

section
variable {P : Program} {w : World} {H : Hp} {h : Heap} {a : Addr}
theorem rd_of {u : HO} (ok : HOk P w H h) (e : Rd H a u) : ObjOk P w H h a u := e.ok ok
theorem dk_rd {kvs : List (Key × V)} (ok : HOk P w H h) (e : Rd H a (.dK kvs)) : kvs.length ≤ sizeLine ∧ (a == sysModules) = false ∧ ∃ vs, KV kvs vs ∧ h.DictOf (mixKind P w) a vs :=
  show ObjOk P w H h a (.dK kvs) from rd_of ok e
theorem dk_of {kvs : List (Key × V)} (ok : HOk P w H h) (e : H a = some (.dK kvs)) : kvs.length ≤ sizeLine ∧ (a == sysModules) = false ∧ ∃ vs, KV kvs vs ∧ h.DictOf (mixKind P w) a vs := dk_rd ok (.inl e)
/-- a tracked tuple of ints and texts is a key -/
theorem key_of {ks : List Key} (ok : HOk P w H h) (e : H a = some (.tup (ks.map kV))) : (tupleKind (mixKind P w)).is h ks a := by
  obtain ⟨_, its, r, o, h1, h2, n, h3⟩ := (show ObjOk P w H h a (.tup (ks.map kV)) from ok a _ e)
  exact ⟨o, its.toArray, n, h1, h2, h3, by simpa using items_are r⟩
theorem dt_rd {kvs : List (List Key × V)} (ok : HOk P w H h) (e : Rd H a (.dT kvs)) : kvs.length ≤ sizeLine ∧ (a == sysModules) = false ∧
    ∃ xs, KT H kvs xs ∧ h.DictOfH (tupleKind (mixKind P w)) a xs := by
  obtain ⟨z, y, xs, r, o, es, ep, h1, h2, h3, h4, h5⟩ := (show ObjOk P w H h a (.dT kvs) from rd_of ok e)
  refine ⟨z, y, xs, r, o, es, ep, h1, h2, h3, h4, fun x hx => ?_, h5⟩
  have all : ∀ {l : List (List Key × V)} {m : List (List Key × Addr × Value)}, KT H l m → ∀ x ∈ m, (tupleKind (mixKind P w)).is h x.1 x.2.1 := by
    intro l m q
    induction q with
    | nil => intro x hx; exact nomatch hx
    | @cons p q ps qs hq t ih =>
      intro x hx
      rcases List.mem_cons.mp hx with e | hx
      · subst e
        exact key_of ok (by rw [← hq.1]; exact hq.2.1)
      · exact ih x hx
  exact all r x hx
theorem dt_of {kvs : List (List Key × V)} (ok : HOk P w H h) (e : H a = some (.dT kvs)) : kvs.length ≤ sizeLine ∧ (a == sysModules) = false ∧
    ∃ xs, KT H kvs xs ∧ h.DictOfH (tupleKind (mixKind P w)) a xs := dt_rd ok (.inl e)
end

/-- what the dict at a holds at the key y -/
def DGet (H : Hp) (a : Addr) (y : V) (r : Option V) : Prop :=
  (∃ kvs k, Rd H a (.dK kvs) ∧ y = kV k ∧ r = valV kvs k) ∨ ∃ kvs k b, Rd H a (.dT kvs) ∧ y = .ref b ∧ H b = some (.tup (k.map kV)) ∧ r = valV kvs k
/-- the heap behind a[y] = v -/
def DPut (H : Hp) (a : Addr) (y v : V) (H' : Hp) : Prop :=
  (∃ kvs k, H a = some (.dK kvs) ∧ y = kV k ∧ kvs.length < sizeLine ∧ H' = upd H a (.dK (putK kvs k v))) ∨
  ∃ kvs k b, H a = some (.dT kvs) ∧ y = .ref b ∧ H b = some (.tup (k.map kV)) ∧ kvs.length < sizeLine ∧ H' = upd H a (.dT (putK kvs k v))
theorem DGet.k {H : Hp} {a : Addr} {kvs : List (Key × V)} {k : Key} (e : H a = some (.dK kvs)) : DGet H a (kV k) (valV kvs k) := .inl ⟨kvs, k, .inl e, rfl, rfl⟩
theorem DGet.t {H : Hp} {a b : Addr} {kvs : List (List Key × V)} {k : List Key} (e : H a = some (.dT kvs)) (eb : H b = some (.tup (k.map kV))) : DGet H a (.ref b) (valV kvs k) := .inr ⟨kvs, k, b, .inl e, rfl, eb, rfl⟩
theorem DPut.k {H : Hp} {a : Addr} {kvs : List (Key × V)} {k : Key} {v : V} (e : H a = some (.dK kvs)) (hl : kvs.length < sizeLine) : DPut H a (kV k) v (upd H a (.dK (putK kvs k v))) := .inl ⟨kvs, k, e, rfl, hl, rfl⟩
theorem DPut.t {H : Hp} {a b : Addr} {kvs : List (List Key × V)} {k : List Key} {v : V} (e : H a = some (.dT kvs)) (eb : H b = some (.tup (k.map kV))) (hl : kvs.length < sizeLine) :
    DPut H a (.ref b) v (upd H a (.dT (putK kvs k v))) := .inr ⟨kvs, k, b, e, rfl, eb, hl, rfl⟩


section
variable {X : Cx} {pins : List (Addr × Obj)} {σ : St} {H : Hp} {s : Shared} {a : Addr} {y v : V} {u r : Value} {o : Option V} {A : Around} {E : Value → Shared → Prop}

theorem Inv.big (I : Inv X pins σ H s) : sysModules < s.heap.objs.size := by
  have h : mainGlobals < s.heap.objs.size := (I.mod.glob.keeps I.bk).lt
  exact Nat.lt_trans (by decide) h

/-- d[y], there -/
theorem d_getItem {Q : Value → Shared → Prop} (hu : A.units + 1 < cLine) (I : Inv X pins σ H s) (g : DGet H a y (some v)) (ry : RelV y u) (h : ∀ w' s', Inv X pins σ H s' → RelV v w' → Q w' s') :
    wpAny (model X.prog X.w) A (getItem (.ref a) u) Q E s := by
  rcases g with ⟨kvs, k, e, ey, l⟩ | ⟨kvs, k, b, e, ey, eb, l⟩
  · subst ey
    obtain ⟨z, hd, vs, rel, dd⟩ := dk_rd I.hok e
    obtain ⟨w', hw, rw'⟩ := RelO.some_of (v := v) (o := valueAt vs k) (by rw [l]; exact rel.val k)
    exact wpAny_getItem_of (kV_is ry) dd.mapOf hw (h w' _ (I.tok _) rw')
  · subst ey
    cases (show u = Value.ref b from ry)
    obtain ⟨z, hd, xs, rel, dd⟩ := dt_rd I.hok e
    obtain ⟨w', hw, rw'⟩ := RelO.some_of (v := v) (o := (atKey xs k).map (·.2)) (by rw [l]; exact rel.val k)
    obtain ⟨p, hp, hp2⟩ := Option.map_eq_some_iff.mp hw
    refine wpAny_getItem_heap (tupleKind_room_in1 hu) (key_of I.hok eb) dd hp ?_
    rw [hp2]
    exact h w' _ (I.tok _) rw'
/-- y in d -/
theorem d_in {Q : Value → Shared → Prop} (hu : A.units + 1 < cLine) (I : Inv X pins σ H s) (g : DGet H a y o) (ry : RelV y u) (h : ∀ s', Inv X pins σ H s' → Q (.bool o.isSome) s') :
    wpAny (model X.prog X.w) A (compareOp .In u (.ref a)) Q E s := by
  rcases g with ⟨kvs, k, e, ey, l⟩ | ⟨kvs, k, b, e, ey, eb, l⟩
  · subst ey
    obtain ⟨z, hd, vs, rel, dd⟩ := dk_rd I.hok e
    refine wpAny_in_of (kV_is ry) hd dd.mapOf ?_
    rw [← (rel.val k).isSome_eq, ← l]
    exact h _ (I.tok _)
  · subst ey
    cases (show u = Value.ref b from ry)
    obtain ⟨z, hd, xs, rel, dd⟩ := dt_rd I.hok e
    refine wpAny_in_heap (tupleKind_room_in1 hu) (key_of I.hok eb) hd dd ?_
    have q := (rel.val k).isSome_eq
    rw [Option.isSome_map] at q
    rw [← q, ← l]
    exact h _ (I.tok _)
theorem d_notIn {Q : Value → Shared → Prop} (hu : A.units + 1 < cLine) (I : Inv X pins σ H s) (g : DGet H a y o) (ry : RelV y u) (h : ∀ s', Inv X pins σ H s' → Q (.bool (!o.isSome)) s') :
    wpAny (model X.prog X.w) A (compareOp .NotIn u (.ref a)) Q E s := by
  rcases g with ⟨kvs, k, e, ey, l⟩ | ⟨kvs, k, b, e, ey, eb, l⟩
  · subst ey
    obtain ⟨z, hd, vs, rel, dd⟩ := dk_rd I.hok e
    refine wpAny_notIn_of (kV_is ry) hd dd.mapOf ?_
    rw [← (rel.val k).isSome_eq, ← l]
    exact h _ (I.tok _)
  · subst ey
    cases (show u = Value.ref b from ry)
    obtain ⟨z, hd, xs, rel, dd⟩ := dt_rd I.hok e
    refine wpAny_notIn_heap (tupleKind_room_in1 hu) (key_of I.hok eb) hd dd ?_
    have q := (rel.val k).isSome_eq
    rw [Option.isSome_map] at q
    rw [← q, ← l]
    exact h _ (I.tok _)
/-- a dict's object is replaced -/
theorem d_write {h' : Heap} {t' : Nat} {ob : HO} (I : Inv X pins σ H s) (mu : Mut (H a)) (hs : Heap.SameBut a s.heap h') (he : ∃ q, h'.get? a = some q) (new : ObjOk X.prog X.w (upd H a ob) h' a ob) :
    Inv X pins σ (upd H a ob) { s with heap := h', toks := t' } :=
  I.write (x := a) (e := a) mu (.inl rfl) (fun b q hb z => (hs.2 b hb).trans z) he new
theorem dk_new {P : Program} {w : World} {H' : Hp} {h' : Heap} {kvs : List (Key × V)} {vs : List (Key × Value)} (z : kvs.length ≤ sizeLine) (hd : (a == sysModules) = false) (rel : KV kvs vs) (dd : h'.DictOf (mixKind P w) a vs) :
    ObjOk P w H' h' a (.dK kvs) := ⟨z, hd, vs, rel, dd⟩
/-- d[y] = v -/
theorem d_setItem {H' : Hp} {Q : Unit → Shared → Prop} (hu : A.units + 1 < cLine) (I : Inv X pins σ H s) (g : DPut H a y v H') (ry : RelV y u) (rv : RelV v r) (h : ∀ s', Inv X pins σ H' s' → Q () s') :
    wpAny (model X.prog X.w) A (setItem (.ref a) u r) Q E s := by
  rcases g with ⟨kvs, k, e, ey, l, eH⟩ | ⟨kvs, k, b, e, ey, eb, l, eH⟩
  · subst ey eH
    obtain ⟨z, hd, vs, rel, dd⟩ := dk_of I.hok e
    have hz : vs.length ≤ sizeLine := by rw [← rel.length]; exact z
    have hl : (putK kvs k v).length ≤ sizeLine := by have := length_putK kvs k v; omega
    refine wpAny_setItem_pairs (hsz := hz) (kV_is ry) dd fun h' dd' hs => h _ ?_
    have he : ∃ q, h'.get? a = some q := let ⟨q, _, _, hq, _⟩ := dd'; ⟨q, hq⟩
    exact d_write I (by rw [e]; exact True.intro) hs he (dk_new hl hd (rel.put k rv) dd')
  · subst ey eH
    cases (show u = Value.ref b from ry)
    obtain ⟨z, hd, xs, rel, dd⟩ := dt_of I.hok e
    have hz : xs.length ≤ sizeLine := by rw [← Paired.length rel]; exact z
    have hl : (putK kvs k v).length ≤ sizeLine := by have := length_putK kvs k v; omega
    refine wpAny_setItem_heap (hsz := hz) (tupleKind_room_in1 hu) (key_of I.hok eb) dd fun h' dd' hs => h _ ?_
    obtain ⟨q, es, ep, hq, h2, h3, h4, _, h5⟩ := dd'
    refine d_write I (by rw [e]; exact True.intro) hs ⟨q, hq⟩ ⟨hl, hd, _, (rel.put k eb rv).keeps fun c ys ec => ?_, q, es, ep, hq, h2, h3, h4, h5⟩
    rw [upd_ne (ne_of ec e (fun z => nomatch z))]
    exact ec
end

section
variable {X : Cx} {pins : List (Addr × Obj)} {σ : St} {H : Hp} {s : Shared} {a : Addr} {kvs : List (Key × V)} {k : Key} {u : Value} {A : Around} {E : Value → Shared → Prop}
/-- del d[k] -/
theorem d_delItem {Q : Unit → Shared → Prop} (I : Inv X pins σ H s) (e : H a = some (.dK kvs)) (ry : RelV (kV k) u) (l : (valV kvs k).isSome = true) (h : ∀ s', Inv X pins σ (upd H a (.dK (dropK kvs k))) s' → Q () s') :
    wpAny (model X.prog X.w) A (delItem (.ref a) u) Q E s := by
  obtain ⟨z, hd, vs, rel, dd⟩ := dk_of I.hok e
  refine wpAny_delItem_slot dd.typeIs (by decide) PySem.F.slot_dict_delitem
    (call_meetsIn PySem.F.slot_dict_delitem dd.typeIs PySem.F.entry_dict_delitem (PySem.F.args_dict_delitem_2 _ _) (meets_dict_delitem_pairs (mixKind X.prog X.w) a (kV_is ry)) ⟨vs, dd, by rw [← rel.length]; exact z, by rw [← (rel.val k).isSome_eq]; exact l, fun h' dd' hs => h _ ?_⟩)
  have he : ∃ q, h'.get? a = some q := let ⟨q, _, _, hq, _⟩ := dd'; ⟨q, hq⟩
  exact d_write I (by rw [e]; exact True.intro) hs he (dk_new (Nat.le_trans (dropK_le kvs k) z) hd (rel.drop k) dd')
/-- d.pop(k[, x]), there -/
theorem d_pop {v : V} {more : List Value} {Q : Value → Shared → Prop} (I : Inv X pins σ H s) (e : H a = some (.dK kvs)) (ry : RelV (kV k) u) (l : valV kvs k = some v) (hm : more = [] ∨ ∃ x, more = [x])
    (h : ∀ w' s', Inv X pins σ (upd H a (.dK (dropK kvs k))) s' → RelV v w' → Q w' s') : wpAny (model X.prog X.w) A (call (.builtin "dict.pop") (.ref a :: u :: more)) Q E s := by
  obtain ⟨z, hd, vs, rel, dd⟩ := dk_of I.hok e
  obtain ⟨w', hw, rw'⟩ := RelO.some_of (v := v) (o := valueAt vs k) (by rw [← l]; exact rel.val k)
  have hp : (keyPart u).isSome = true := by
    cases k with
    | inl i => obtain ⟨t, q⟩ := (show ∃ t, u = Value.int i t from ry); subst q; rfl
    | inr x => obtain ⟨t, q⟩ := (show ∃ t, u = Value.str x t from ry); subst q; rfl
  have ha : argsOk "dict.pop" ⟨.ref a :: u :: more, []⟩ := by
    rcases hm with q | ⟨x, q⟩
    · subst q; exact PySem.F.args_dict_pop_2 _ _
    · subst q; exact PySem.F.args_dict_pop_3 _ _ _
  refine call_meetsIn PySem.F.slot_dict_pop dd.typeIs PySem.F.entry_dict_pop ha (meets_dict_pop_there (mixKind X.prog X.w) a (kV_is ry) more hm hp)
    ⟨vs, w', dd, by rw [← rel.length]; exact z, hw, fun h' dd' hs => h w' _ ?_ rw'⟩
  have he : ∃ q, h'.get? a = some q := let ⟨q, _, _, hq, _⟩ := dd'; ⟨q, hq⟩
  exact d_write I (by rw [e]; exact True.intro) hs he (dk_new (Nat.le_trans (dropK_le kvs k) z) hd (rel.drop k) dd')
/-- d.pop(k, x), not there -/
theorem d_popD {r : Value} {Q : Value → Shared → Prop} (I : Inv X pins σ H s) (e : H a = some (.dK kvs)) (ry : RelV (kV k) u) (l : valV kvs k = none) (h : ∀ s', Inv X pins σ H s' → Q r s') :
    wpAny (model X.prog X.w) A (call (.builtin "dict.pop") [.ref a, u, r]) Q E s := by
  obtain ⟨z, hd, vs, rel, dd⟩ := dk_of I.hok e
  have hn : valueAt vs k = none := RelO.none_of (by rw [← l]; exact rel.val k)
  have hp : (keyPart u).isSome = true := by
    cases k with
    | inl i => obtain ⟨t, q⟩ := (show ∃ t, u = Value.int i t from ry); subst q; rfl
    | inr x => obtain ⟨t, q⟩ := (show ∃ t, u = Value.str x t from ry); subst q; rfl
  exact call_meetsIn PySem.F.slot_dict_pop dd.typeIs PySem.F.entry_dict_pop (PySem.F.args_dict_pop_3 _ _ _) (meets_dict_pop_default (mixKind X.prog X.w) a (kV_is ry) hd hp r) ⟨vs, dd, hn, h _ (I.tok _)⟩
/-- d.clear() -/
theorem d_clear {Q : Value → Shared → Prop} (I : Inv X pins σ H s) (e : H a = some (.dK kvs)) (h : ∀ s', Inv X pins σ (upd H a (.dK [])) s' → Q .none s') : wpAny (model X.prog X.w) A (call (.builtin "dict.clear") [.ref a]) Q E s := by
  obtain ⟨z, hd, vs, rel, dd⟩ := dk_of I.hok e
  refine call_meetsIn PySem.F.slot_dict_clear dd.typeIs PySem.F.entry_dict_clear (PySem.F.args_dict_clear_1 _) (meets_dict_clear (mixKind X.prog X.w) a) ⟨vs, dd, by rw [← rel.length]; exact z, fun h' dd' hs => h _ ?_⟩
  have he : ∃ q, h'.get? a = some q := let ⟨q, _, _, hq, _⟩ := dd'; ⟨q, hq⟩
  exact d_write (t' := s.toks) I (by rw [e]; exact True.intro) hs he (dk_new (Nat.zero_le _) hd .nil dd')
/-- len(d) -/
theorem d_len {Q : Value → Shared → Prop} (I : Inv X pins σ H s) (e : Rd H a (.dK kvs)) (h : ∀ t s', Inv X pins σ H s' → Q (.int kvs.length t) s') : wpAny (model X.prog X.w) A (call (.builtin "len") [.ref a]) Q E s := by
  obtain ⟨z, hd, vs, rel, dd⟩ := dk_rd I.hok e
  refine call_len_dict hd dd (by rw [← rel.length]; rw [sizeLine_eq] at z; omega) ?_
  rw [← rel.length]
  exact h _ _ (I.tok _)
/-- if d -/
theorem d_truth {Q : Bool → Shared → Prop} (I : Inv X pins σ H s) (e : Rd H a (.dK kvs)) (h : ∀ s', Inv X pins σ H s' → Q (!kvs.isEmpty) s') : wpAny (model X.prog X.w) A (truthy (.ref a)) Q E s := by
  obtain ⟨z, hd, vs, rel, dd⟩ := dk_rd I.hok e
  refine wpAny_truthy_dict hd dd (by rw [← rel.length]; rw [sizeLine_eq] at z; omega) ?_
  have q : kvs.isEmpty = vs.isEmpty := by cases rel <;> rfl
  rw [← q]
  exact h _ (I.tok _)
end


/-! ### readings and rules -/
/-- the element of a subscription, not a slice -/
def NoSl (i : Expr) : Prop := ∀ ov iv, subscripted i false ov iv = operate [ov, iv] (getItem ov iv)
theorem subD_of {prog : Program} {w : World} {A : Around} {E : Value → Shared → Prop} {s : Shared} {env : Env} {value slice : Expr} {pos : Pos} {T id : String} {Q : Value → Shared → Prop}
    (hl : typeLookup (.type T) "__getitem__" = pure (some (.builtin id))) (hs : NoSl slice)
    (h : wpAny (model prog w) A (eval value env) (fun o s₁ => wpAny (model prog w) A (eval slice env) (fun i s₂ => s₂.TypeIs o T ∧ wpAny (model prog w) A (getItem o i) Q E s₂) E s₁) E s) :
    wpAny (model prog w) A (eval (.Subscript value slice pos) env) Q E s := by
  refine Subscript_ (wpAny_mono h (fun o s₁ h₁ => wpAny_mono h₁ (fun i s₂ h₂ => ?_) fun _ _ x => x) fun _ _ x => x)
  obtain ⟨hT, h₂⟩ := h₂
  unfold subscriptTail
  refine wpAny_bind ?_
  rw [getitemInPython_of_ne hT.not_modules]
  refine wpAny_bind (wpAny_specialOf hT hl ?_)
  have fin : wpAny (model prog w) A (subscripted slice false o i) (fun r s₃ => wpAny (model prog w) A (letTemporaryGo value o r >>= fun _ => pure r) Q E s₃) E s₂ := by
    rw [hs o i]
    exact wpAny_operating (wpAny_mono h₂ (fun r s₃ h₃ => wpAny_bind (wpAny_letTemporaryGo (wpAny_pure h₃))) fun _ _ x => x)
  first
    | exact wpAny_pure (wpAny_bind fin)
    | exact wpAny_bind (wpAny_pure (wpAny_bind fin))
    | exact wpAny_bind fin

theorem dict_typeIs {X : Cx} {pins : List (Addr × Obj)} {σ : St} {H : Hp} {s : Shared} {a : Addr} {y : V} {o : Option V} (I : Inv X pins σ H s) (g : DGet H a y o) : s.TypeIs (.ref a) "dict" := by
  rcases g with ⟨kvs, k, e, _, _⟩ | ⟨kvs, k, b, e, _, _, _⟩
  · obtain ⟨_, _, vs, _, dd⟩ := dk_rd I.hok e
    exact dd.typeIs
  · obtain ⟨_, _, xs, _, dd⟩ := dt_rd I.hok e
    exact dd.typeIs
theorem dict_noDict {X : Cx} {pins : List (Addr × Obj)} {σ : St} {H : Hp} {s : Shared} {a : Addr} {y : V} {o : Option V} (I : Inv X pins σ H s) (g : DGet H a y o) :
    ∀ b, Value.ref a = .ref b → ∃ ob, s.heap.get? b = some ob ∧ ob.dict = none := fun b q => by
  cases q
  rcases g with ⟨kvs, k, e, _, _⟩ | ⟨kvs, k, b, e, _, _, _⟩
  · obtain ⟨_, _, vs, _, ob, _, _, h1, h2, _⟩ := dk_rd I.hok e
    exact ⟨ob, h1, h2.2.1⟩
  · obtain ⟨_, _, xs, _, ob, _, _, h1, h2, _⟩ := dt_rd I.hok e
    exact ⟨ob, h1, h2.2.1⟩

/-- d[y] -/
def tDGet (td ty : TE) : TE := fun σ H Q => td σ H fun x H1 => ty σ H1 fun y H2 => ∃ a v, x = .ref a ∧ DGet H2 a y (some v) ∧ Q v H2
/-- y in d, y not in d -/
def tDIn (ty td : TE) : TE := fun σ H Q => ty σ H fun y H1 => td σ H1 fun x H2 => ∃ a o, x = .ref a ∧ DGet H2 a y o ∧ Q (.bl o.isSome) H2
def tDNotIn (ty td : TE) : TE := fun σ H Q => ty σ H fun y H1 => td σ H1 fun x H2 => ∃ a o, x = .ref a ∧ DGet H2 a y o ∧ Q (.bl (!o.isSome)) H2
/-- d[y] = v -/
def sDPut (td ty tv : TE) : TS := fun D σ H => tv σ H fun v H1 => td σ H1 fun x H2 => ty σ H2 fun y H3 => ∃ a H4, x = .ref a ∧ DPut H3 a y v H4 ∧ D.nx σ H4
/-- d[y] op= v -/
def sDAug (td ty tv : TE) (rd : V → V → Hp → VK → Prop) : TS := fun D σ H => td σ H fun x H1 => ty σ H1 fun y H2 => ∃ a v, x = .ref a ∧ DGet H2 a y (some v) ∧
  tv σ H2 fun y2 H3 => rd v y2 H3 fun z H4 => ∃ H5, DPut H4 a y z H5 ∧ D.nx σ H5
/-- del d[y] -/
def sDDel (td ty : TE) : TS := fun D σ H => td σ H fun x H1 => ty σ H1 fun y H2 => ∃ a kvs k, x = .ref a ∧ H2 a = some (.dK kvs) ∧ y = kV k ∧ (valV kvs k).isSome = true ∧ D.nx σ (upd H2 a (.dK (dropK kvs k)))

section
variable {X : Cx} {o i e value : Expr} {pos pos' tpos : Pos} {td ty tv : TE}
theorem pe_dget (hu : X.A.units + 1 < cLine) (ho : PE X o td) (hi : PE X i ty) (hs : NoSl i) : PE X (.Subscript o i pos) (tDGet td ty) := by
  intro pins s σ H Q I h
  refine subD_of PySem.F.slot_dict_getitem.lookup hs (thn (ho pins s σ H _ I h) fun u s1 ⟨x, H1, I1, rx, q1⟩ => thn (hi pins s1 σ H1 _ I1 q1) fun iv s2 ⟨y, H2, I2, ry, a, v, ex, g, q2⟩ => ?_)
  subst ex
  obtain rfl : u = Value.ref a := rx
  exact ⟨dict_typeIs I2 g, d_getItem hu I2 g ry fun w' s3 I3 rw' => ⟨v, H2, I3, rw', q2⟩⟩
theorem pc_din (hu : X.A.units + 1 < cLine) (hi : PE X i ty) (ho : PE X o td) : PC X .In i o (tDIn ty td) := by
  intro pins s σ H Q I h
  refine thn (hi pins s σ H _ I h) fun iv s1 ⟨y, H1, I1, ry, q1⟩ => thn (ho pins s1 σ H1 _ I1 q1) fun u s2 ⟨x, H2, I2, rx, a, ov, ex, g, q2⟩ => ?_
  subst ex
  obtain rfl : u = Value.ref a := rx
  exact d_in hu I2 g ry fun s3 I3 => ⟨.bl ov.isSome, H2, I3, rfl, q2⟩
theorem pc_dnotin (hu : X.A.units + 1 < cLine) (hi : PE X i ty) (ho : PE X o td) : PC X .NotIn i o (tDNotIn ty td) := by
  intro pins s σ H Q I h
  refine thn (hi pins s σ H _ I h) fun iv s1 ⟨y, H1, I1, ry, q1⟩ => thn (ho pins s1 σ H1 _ I1 q1) fun u s2 ⟨x, H2, I2, rx, a, ov, ex, g, q2⟩ => ?_
  subst ex
  obtain rfl : u = Value.ref a := rx
  exact d_notIn hu I2 g ry fun s3 I3 => ⟨.bl (!ov.isSome), H2, I3, rfl, q2⟩
theorem ps_dput (hu : X.A.units + 1 < cLine) (ho : PE X o td) (hi : PE X i ty) (hv : PE X value tv) (hs : swapsWith value (some (.Subscript o i pos')) pos.line X.env = pure false) :
    PS X (.Assign [.Subscript o i pos'] value pos) (sDPut td ty tv) := by
  intro pins s σ H D I h
  refine wpAny_Assign_Subscript (thn (hv pins s σ H _ I h) fun r s1 ⟨v, H1, I1, rv, q1⟩ => thn (ho pins s1 σ H1 _ I1 q1) fun u s2 ⟨x, H2, I2, rx, q2⟩ => thn (hi pins s2 σ H2 _ I2 q2) fun iv s3 ⟨y, H3, I3, ry, a, H4, ex, g, q3⟩ => ?_) hs
  subst ex
  obtain rfl : u = Value.ref a := rx
  exact d_setItem hu I3 g ry rv fun s4 I4 => ⟨σ, H4, I4, q3⟩
theorem ps_daug {op : Operator} {rd : V → V → Hp → VK → Prop} (hu : X.A.units + 1 < cLine) (ho : PE X o td) (hi : PE X i ty) (hv : PE X value tv) (hop : InOp X op rd)
    (ha : ∀ ov iv new, augStore i ov iv new = (do holding [new, ov, iv] (setItem ov iv new); release [new, ov, iv] []; pure .next)) : PS X (.AugAssign (.Subscript o i tpos) op value pos) (sDAug td ty tv rd) := by
  intro pins s σ H D I h
  refine wpAny_AugAssign_SubscriptAny (thn (ho pins s σ H _ I h) fun u s1 ⟨x, H1, I1, rx, q1⟩ => thn (hi pins s1 σ H1 _ I1 q1) fun iv s2 ⟨y, H2, I2, ry, a, v, ex, g, q2⟩ => ?_) ha
  subst ex
  obtain rfl : u = Value.ref a := rx
  refine d_getItem hu I2 g ry fun w' s3 I3 rw' => thn (hv pins s3 σ H2 _ I3 q2) fun w2 s4 ⟨y2, H3, I4, ry2, q3⟩ => thn (hop pins s4 σ H3 v y2 w' w2 _ I4 rw' ry2 q3) fun w3 s5 ⟨z, H4, I5, rz, H5, g5, q4⟩ => ?_
  exact d_setItem hu I5 g5 ry rz fun s6 I6 => ⟨σ, H5, I6, q4⟩
theorem ps_ddel (ho : PE X o td) (hi : PE X i ty) : PS X (.Delete [.Subscript o i tpos] pos) (sDDel td ty) := by
  intro pins s σ H D I h
  refine wpAny_Delete (wpAny_deleteEach_cons (wpAny_delete_Subscript (thn (ho pins s σ H _ I h) fun u s1 ⟨x, H1, I1, rx, q1⟩ => thn (hi pins s1 σ H1 _ I1 q1) fun iv s2 ⟨y, H2, I2, ry, a, kvs, k, ex, e, ey, l, q2⟩ => ?_)))
  subst ex ey
  obtain rfl : u = Value.ref a := rx
  exact d_delItem I2 e ry l fun s3 I3 => wpAny_deleteEach_nil ⟨σ, _, I3, q2⟩
end


/-! ### displays -/
theorem dk_empty {P : Program} {w : World} {H : Hp} (h : Heap) (hb : sysModules < h.objs.size) : ObjOk P w H (h.push { cls := .type "dict", data := .dict #[] }) h.objs.size (.dK []) :=
  ⟨Nat.zero_le _, beq_eq_false_iff_ne.mpr (Ne.symm (Nat.ne_of_lt hb)), [], .nil, Heap.DictOf.new h⟩
theorem dt_empty {P : Program} {w : World} {H : Hp} (h : Heap) (hb : sysModules < h.objs.size) : ObjOk P w H (h.push { cls := .type "dict", data := .dict #[] }) h.objs.size (.dT []) :=
  ⟨Nat.zero_le _, beq_eq_false_iff_ne.mpr (Ne.symm (Nat.ne_of_lt hb)), [], .nil, _, #[], 0, Heap.get?_push_size _ rfl, ⟨rfl, rfl, rfl⟩, rfl, rfl, List.nodup_nil⟩
/-- {}, to be a dict of the kind that is wanted -/
def tDNewK : TE := fun _ H Q => ∀ p, H p = none → Q (.ref p) (upd H p (.dK []))
def tDNewT : TE := fun _ H Q => ∀ p, H p = none → Q (.ref p) (upd H p (.dT []))
section
variable {X : Cx} {pos : Pos}
theorem pe_dnewK : PE X (.Dict [] [] pos) tDNewK := fun pins s σ H Q I h =>
  wpAny_Dict_empty ⟨.ref s.heap.objs.size, _, I.laid (a := s.heap.objs.size) (o := .dK []) (t' := s.toks) (fun _ _ q => Heap.get?_push_of_some _ q) (Nat.le_refl _) (dk_empty s.heap I.big), rfl, h _ (I.hok.fresh (Nat.le_refl _))⟩
theorem pe_dnewT : PE X (.Dict [] [] pos) tDNewT := fun pins s σ H Q I h =>
  wpAny_Dict_empty ⟨.ref s.heap.objs.size, _, I.laid (a := s.heap.objs.size) (o := .dT []) (t' := s.toks) (fun _ _ q => Heap.get?_push_of_some _ q) (Nat.le_refl _) (dt_empty s.heap I.big), rfl, h _ (I.hok.fresh (Nat.le_refl _))⟩
end

/-- the pairs of a display, from the left -/
def tPairs : List (TE × TE) → St → Hp → (List (V × V) → Hp → Prop) → Prop
  | [], _, H, Q => Q [] H
  | (tk, tv) :: r, σ, H, Q => tk σ H fun x H1 => tv σ H1 fun y H2 => tPairs r σ H2 fun ps H3 => Q ((x, y) :: ps) H3
abbrev VV : List (V × V) → List (Value × Value) → Prop := Paired fun p q => RelV p.1 q.1 ∧ RelV p.2 q.2
def PPs (X : Cx) (pos : Pos) (keys : List (Option Expr)) (values : List Expr) (trs : List (TE × TE)) : Prop :=
  ∀ (pins : List (Addr × Obj)) (s : Shared) (σ : St) (H : Hp) (Q : List (V × V) → Hp → Prop), Inv X pins σ H s → tPairs trs σ H Q →
    wpAny (model X.prog X.w) X.A (evalPairs (pairTrees keys values X.env pos)) (fun vs s' => ∃ ps H', Inv X pins σ H' s' ∧ VV ps vs ∧ Q ps H') X.xe s
theorem pps_nil {X : Cx} {pos : Pos} : PPs X pos [] [] [] := fun pins s σ H Q I h => pairTrees_nil_walk ⟨[], H, I, .nil, h⟩
theorem pps_cons {X : Cx} {pos : Pos} {k v : Expr} {ks : List (Option Expr)} {vs : List Expr} {tk tv : TE} {trs : List (TE × TE)} (hk : PE X k tk) (hv : PE X v tv) (hr : PPs X pos ks vs trs) :
    PPs X pos (some k :: ks) (v :: vs) ((tk, tv) :: trs) := fun pins s σ H Q I h =>
  pairTrees_cons_walk (thn (hk pins s σ H _ I h) fun u s1 ⟨x, H1, I1, rx, q1⟩ => thn (hv pins s1 σ H1 _ I1 q1) fun w2 s2 ⟨y, H2, I2, ry, q2⟩ =>
    thn (hr pins s2 σ H2 _ I2 q2) fun ws s3 ⟨ps, H3, I3, rel, q3⟩ => ⟨(x, y) :: ps, H3, I3, .cons ⟨rx, ry⟩ rel, q3⟩)

def mergeK (kvs more : List (Key × V)) : List (Key × V) := more.foldl (fun acc kv => putK acc kv.1 kv.2) kvs
theorem KV.merge : ∀ {more : List (Key × V)} {rs : List (Key × Value)} {kvs : List (Key × V)} {vs : List (Key × Value)}, KV more rs → KV kvs vs → KV (mergeK kvs more) (merged vs rs) := by
  intro more rs kvs vs r
  unfold KV at r
  induction r generalizing kvs vs with
  | nil => intro q; exact q
  | @cons p q ps qs h t ih =>
    intro r0
    have e : KV (putK kvs p.1 p.2) (stored vs q.1 q.2) := by
      have := r0.put p.1 h.2
      rw [← h.1]; exact this
    exact ih e
theorem length_mergeK : ∀ (more kvs : List (Key × V)), (mergeK kvs more).length ≤ kvs.length + more.length
  | [], kvs => by show kvs.length ≤ kvs.length + 0; omega
  | p :: r, kvs => by
    have h1 := length_mergeK r (putK kvs p.1 p.2)
    have h2 := length_putK kvs p.1 p.2
    show (mergeK (putK kvs p.1 p.2) r).length ≤ _
    rw [List.length_cons]; omega
theorem carries_of {P : Program} {w : World} : ∀ {kvs : List (Key × V)} {ws : List (Value × Value)}, VV (kvs.map fun kv => (kV kv.1, kv.2)) ws → ∃ rs, Carries (mixKind P w) ws rs ∧ KV kvs rs
  | [], _, r => by rw [List.map_nil] at r; cases r; exact ⟨[], True.intro, .nil⟩
  | p :: kvs, _, r => by
    rw [List.map_cons] at r
    cases r with
    | @cons a b as bs h t =>
      obtain ⟨rs, c, q⟩ := carries_of (P := P) (w := w) t
      obtain ⟨b1, b2⟩ := b
      exact ⟨(p.1, b2) :: rs, ⟨kV_is h.1, rfl, c⟩, .cons ⟨rfl, h.2⟩ q⟩
/-- {k: v, ..} with keys ints and texts; the new dict stands empty while the pairs are made -/
def tDisp (trs : List (TE × TE)) : TE := fun σ H Q => ∀ p, H p = none → tPairs trs σ (upd H p (.dK [])) fun ps H2 => H2 p = some (.dK []) ∧ ∃ kvs : List (Key × V), ps = kvs.map (fun kv => (kV kv.1, kv.2)) ∧ kvs.length ≤ 15 ∧ Q (.ref p) (upd H2 p (.dK (mergeK [] kvs)))
theorem pe_disp {X : Cx} {pos : Pos} {keys : List (Option Expr)} {values : List Expr} {trs : List (TE × TE)} (h : PPs X pos keys values trs) (hall : keys.all (·.isSome) = true) (hl : keys.length = values.length) (h0 : keys ≠ [])
    (h15 : keys.length ≤ 15) : PE X (.Dict keys values pos) (tDisp trs) := by
  intro pins s σ H Q I q
  have hn := I.hok.fresh (Nat.le_refl s.heap.objs.size)
  have I1 := I.laid (a := s.heap.objs.size) (o := .dK []) (h' := s.heap.push { cls := .type "dict", data := .dict #[] }) (t' := s.toks) (fun _ _ q => Heap.get?_push_of_some _ q) (Nat.le_refl _) (dk_empty s.heap I.big)
  refine wpAny_Dict_walk (knd := mixKind X.prog X.w) hall hl h0 h15 (thn (h pins _ σ _ _ I1 (q _ hn)) fun ws s2 ⟨ps, H2, I2, rel, e, kvs, ep, lk, q2⟩ => ?_)
  subst ep
  obtain ⟨rs, c, rk⟩ := carries_of (P := X.prog) (w := X.w) rel
  obtain ⟨z, hd, vs0, r0, dd⟩ := dk_of I2.hok e
  cases r0
  refine ⟨rs, c, dd, fun h' dd' hs => ⟨.ref s.heap.objs.size, _, ?_, rfl, q2⟩⟩
  have hz : (mergeK [] kvs).length ≤ sizeLine := by
    have h1 := length_mergeK kvs []
    rw [List.length_nil] at h1
    rw [sizeLine_eq]; omega
  have he : ∃ q, h'.get? s.heap.objs.size = some q := let ⟨q, _, _, hq, _⟩ := dd'; ⟨q, hq⟩
  exact d_write I2 (by rw [e]; exact True.intro) hs he (dk_new hz hd (rk.merge .nil) dd')


/-! ### methods -/
/-- a method call o.m(e) of a built-in, with one argument: what must be seen of the text -/
structure M1 (X : Cx) (o : Expr) (m : Str) (apos : Pos) (e : Expr) (cpos : Pos) : Prop where
  base : attributeBase o m X.env (eval o X.env) = eval o X.env
  few : ((backTo cpos (starEach [e] X.env)).all (fun x => !x.1) && (backToKw cpos (keywordEach [] X.env)).all (fun x => x.1.isSome)
    && decide (([e] : List Expr).length + ([] : List Keyword).length + (if ([] : List Keyword).isEmpty then 0 else 1) < 30)) = true
  line : (apos.endLine == cpos.line) = true
  trees : backTo cpos (starEach [e] X.env) = [(false, eval e X.env)]
structure M2 (X : Cx) (o : Expr) (m : Str) (apos : Pos) (e f : Expr) (cpos : Pos) : Prop where
  base : attributeBase o m X.env (eval o X.env) = eval o X.env
  few : ((backTo cpos (starEach [e, f] X.env)).all (fun x => !x.1) && (backToKw cpos (keywordEach [] X.env)).all (fun x => x.1.isSome)
    && decide (([e, f] : List Expr).length + ([] : List Keyword).length + (if ([] : List Keyword).isEmpty then 0 else 1) < 30)) = true
  line : (apos.endLine == cpos.line) = true
  trees : backTo cpos (starEach [e, f] X.env) = [(false, eval e X.env), (false, eval f X.env)]

/-- a is a dict, whatever its keys -/
def IsD (H : Hp) (a : Addr) : Prop := (∃ kvs, Rd H a (.dK kvs)) ∨ ∃ kvs, Rd H a (.dT kvs)
theorem isD_at {X : Cx} {pins : List (Addr × Obj)} {σ : St} {H : Hp} {s : Shared} {a : Addr} (I : Inv X pins σ H s) (d : IsD H a) :
    s.TypeIs (.ref a) "dict" ∧ (∀ b, Value.ref a = .ref b → ∃ ob, s.heap.get? b = some ob ∧ ob.dict = none) ∧ (a == sysModules) = false := by
  rcases d with ⟨kvs, e⟩ | ⟨kvs, e⟩
  · obtain ⟨_, hd, vs, _, dd⟩ := dk_rd I.hok e
    refine ⟨dd.typeIs, fun b q => ?_, hd⟩
    cases q
    obtain ⟨ob, _, _, h1, h2, _⟩ := dd
    exact ⟨ob, h1, h2.2.1⟩
  · obtain ⟨_, hd, xs, _, dd⟩ := dt_rd I.hok e
    refine ⟨dd.typeIs, fun b q => ?_, hd⟩
    cases q
    obtain ⟨ob, _, _, h1, h2, _⟩ := dd
    exact ⟨ob, h1, h2.2.1⟩

section
variable {X : Cx} {pins : List (Addr × Obj)} {σ : St} {H : Hp} {s : Shared} {a : Addr} {y d : V} {u r : Value} {o : Option V} {A : Around} {E : Value → Shared → Prop}
/-- d.get(y) -/
theorem d_get1 {Q : Value → Shared → Prop} (hu : A.units + 1 < cLine) (I : Inv X pins σ H s) (g : DGet H a y o) (ry : RelV y u) (h : ∀ w' s', Inv X pins σ H s' → RelV (o.getD .non) w' → Q w' s') :
    wpAny (model X.prog X.w) A (call (.builtin "dict.get") [.ref a, u]) Q E s := by
  rcases g with ⟨kvs, k, e, ey, l⟩ | ⟨kvs, k, b, e, ey, eb, l⟩
  · subst ey
    obtain ⟨z, hd, vs, rel, dd⟩ := dk_rd I.hok e
    refine call_meetsIn PySem.F.slot_dict_get dd.typeIs PySem.F.entry_dict_get (PySem.F.args_dict_get_2 _ _) (meets_dict_get (mixKind X.prog X.w) a (kV_is ry) hd) ⟨_, dd.mapOf, h _ _ (I.tok _) ?_⟩
    rw [l]
    exact (rel.val k).getD rfl
  · subst ey
    cases (show u = Value.ref b from ry)
    obtain ⟨z, hd, xs, rel, dd⟩ := dt_rd I.hok e
    refine call_meetsIn PySem.F.slot_dict_get dd.typeIs PySem.F.entry_dict_get (PySem.F.args_dict_get_2 _ _) (meetsH_dict_get (tupleKind (mixKind X.prog X.w)) a b hd) ⟨tupleKind_room_in1 hu, k, xs, key_of I.hok eb, dd, h _ _ (I.tok _) ?_⟩
    rw [l]
    exact (rel.val k).getD rfl
/-- d.get(y, x) -/
theorem d_get2 {Q : Value → Shared → Prop} (hu : A.units + 1 < cLine) (I : Inv X pins σ H s) (g : DGet H a y o) (ry : RelV y u) (rd : RelV d r) (h : ∀ w' s', Inv X pins σ H s' → RelV (o.getD d) w' → Q w' s') :
    wpAny (model X.prog X.w) A (call (.builtin "dict.get") [.ref a, u, r]) Q E s := by
  rcases g with ⟨kvs, k, e, ey, l⟩ | ⟨kvs, k, b, e, ey, eb, l⟩
  · subst ey
    obtain ⟨z, hd, vs, rel, dd⟩ := dk_rd I.hok e
    refine call_meetsIn PySem.F.slot_dict_get dd.typeIs PySem.F.entry_dict_get (PySem.F.args_dict_get_3 _ _ _) (meets_dict_get_default (mixKind X.prog X.w) a (kV_is ry) hd r) ⟨_, dd.mapOf, h _ _ (I.tok _) ?_⟩
    rw [l]
    exact (rel.val k).getD rd
  · subst ey
    cases (show u = Value.ref b from ry)
    obtain ⟨z, hd, xs, rel, dd⟩ := dt_rd I.hok e
    refine call_meetsIn PySem.F.slot_dict_get dd.typeIs PySem.F.entry_dict_get (PySem.F.args_dict_get_3 _ _ _) (meetsH_dict_get_default (tupleKind (mixKind X.prog X.w)) a b hd r) ⟨tupleKind_room_in1 hu, k, xs, key_of I.hok eb, dd, h _ _ (I.tok _) ?_⟩
    rw [l]
    exact (rel.val k).getD rd
end

def tDGet1 (td ty : TE) : TE := fun σ H Q => td σ H fun x H1 => ∃ a, x = .ref a ∧ IsD H1 a ∧ ty σ H1 fun y H2 => ∃ o, DGet H2 a y o ∧ Q (o.getD .non) H2
def tDGet2 (td ty tx : TE) : TE := fun σ H Q => td σ H fun x H1 => ∃ a, x = .ref a ∧ IsD H1 a ∧ ty σ H1 fun y H2 => tx σ H2 fun z H3 => ∃ o, DGet H3 a y o ∧ Q (o.getD z) H3
/-- d.pop(k): there; d.pop(k, x): there or not -/
def tDPop1 (td ty : TE) : TE := fun σ H Q => td σ H fun x H1 => ∃ a, x = .ref a ∧ IsD H1 a ∧ ty σ H1 fun y H2 => ∃ kvs k v, H2 a = some (.dK kvs) ∧ y = kV k ∧ valV kvs k = some v ∧ Q v (upd H2 a (.dK (dropK kvs k)))
def tDPop2 (td ty tx : TE) : TE := fun σ H Q => td σ H fun x H1 => ∃ a, x = .ref a ∧ IsD H1 a ∧ ty σ H1 fun y H2 => tx σ H2 fun z H3 => ∃ kvs k, H3 a = some (.dK kvs) ∧ y = kV k ∧
  (∀ v, valV kvs k = some v → Q v (upd H3 a (.dK (dropK kvs k)))) ∧ (valV kvs k = none → Q z H3)
section
variable {X : Cx} {o e f : Expr} {apos cpos : Pos} {td ty tx : TE}
theorem pe_dget1 (hu : X.A.units + 1 < cLine) (ho : PE X o td) (he : PE X e ty) (m : M1 X o "get" apos e cpos) : PE X (.Call (.Attribute o "get" apos) [e] [] cpos) (tDGet1 td ty) := by
  intro pins s σ H Q I h
  refine wpAny_Call_method m.base m.few m.line PySem.F.plainAttrs_dict PySem.F.slot_dict_get PySem.F.type_dict_get (thn (ho pins s σ H _ I h) fun u s1 ⟨x, H1, I1, rx, a, ex, d, q1⟩ => ?_)
  subst ex
  obtain rfl : u = Value.ref a := rx
  obtain ⟨t1, t2, _⟩ := isD_at I1 d
  refine ⟨t1, t2, ?_⟩
  rw [m.trees]
  refine Calls.callWith_builtin rfl (Calls.evalArgs_plain (Calls.spliced_cons (thn (he pins s1 σ H1 _ I1 q1) fun iv s2 ⟨y, H2, I2, ry, ov, g, q2⟩ => Calls.spliced_nil ?_)))
  exact d_get1 hu I2 g ry fun w' s3 I3 rw' => ⟨_, H2, I3, rw', q2⟩
theorem pe_dget2 (hu : X.A.units + 1 < cLine) (ho : PE X o td) (he : PE X e ty) (hf : PE X f tx) (m : M2 X o "get" apos e f cpos) : PE X (.Call (.Attribute o "get" apos) [e, f] [] cpos) (tDGet2 td ty tx) := by
  intro pins s σ H Q I h
  refine wpAny_Call_method m.base m.few m.line PySem.F.plainAttrs_dict PySem.F.slot_dict_get PySem.F.type_dict_get (thn (ho pins s σ H _ I h) fun u s1 ⟨x, H1, I1, rx, a, ex, d, q1⟩ => ?_)
  subst ex
  obtain rfl : u = Value.ref a := rx
  obtain ⟨t1, t2, _⟩ := isD_at I1 d
  refine ⟨t1, t2, ?_⟩
  rw [m.trees]
  refine Calls.callWith_builtin rfl (Calls.evalArgs_plain (Calls.spliced_cons (thn (he pins s1 σ H1 _ I1 q1) fun iv s2 ⟨y, H2, I2, ry, q2⟩ =>
    Calls.spliced_cons (thn (hf pins s2 σ H2 _ I2 q2) fun fv s3 ⟨z, H3, I3, rz, ov, g, q3⟩ => Calls.spliced_nil ?_))))
  exact d_get2 hu I3 g ry rz fun w' s4 I4 rw' => ⟨_, H3, I4, rw', q3⟩
theorem pe_dpop1 (ho : PE X o td) (he : PE X e ty) (m : M1 X o "pop" apos e cpos) : PE X (.Call (.Attribute o "pop" apos) [e] [] cpos) (tDPop1 td ty) := by
  intro pins s σ H Q I h
  refine wpAny_Call_method m.base m.few m.line PySem.F.plainAttrs_dict PySem.F.slot_dict_pop PySem.F.type_dict_pop (thn (ho pins s σ H _ I h) fun u s1 ⟨x, H1, I1, rx, a, ex, d, q1⟩ => ?_)
  subst ex
  obtain rfl : u = Value.ref a := rx
  obtain ⟨t1, t2, _⟩ := isD_at I1 d
  refine ⟨t1, t2, ?_⟩
  rw [m.trees]
  refine Calls.callWith_builtin rfl (Calls.evalArgs_plain (Calls.spliced_cons (thn (he pins s1 σ H1 _ I1 q1) fun iv s2 ⟨y, H2, I2, ry, kvs, k, v, ea, ey, l, q2⟩ => Calls.spliced_nil ?_)))
  subst ey
  exact d_pop I2 ea ry l (.inl rfl) fun w' s3 I3 rw' => ⟨v, _, I3, rw', q2⟩
theorem pe_dpop2 (ho : PE X o td) (he : PE X e ty) (hf : PE X f tx) (m : M2 X o "pop" apos e f cpos) : PE X (.Call (.Attribute o "pop" apos) [e, f] [] cpos) (tDPop2 td ty tx) := by
  intro pins s σ H Q I h
  refine wpAny_Call_method m.base m.few m.line PySem.F.plainAttrs_dict PySem.F.slot_dict_pop PySem.F.type_dict_pop (thn (ho pins s σ H _ I h) fun u s1 ⟨x, H1, I1, rx, a, ex, d, q1⟩ => ?_)
  subst ex
  obtain rfl : u = Value.ref a := rx
  obtain ⟨t1, t2, _⟩ := isD_at I1 d
  refine ⟨t1, t2, ?_⟩
  rw [m.trees]
  refine Calls.callWith_builtin rfl (Calls.evalArgs_plain (Calls.spliced_cons (thn (he pins s1 σ H1 _ I1 q1) fun iv s2 ⟨y, H2, I2, ry, q2⟩ =>
    Calls.spliced_cons (thn (hf pins s2 σ H2 _ I2 q2) fun fv s3 ⟨z, H3, I3, rz, kvs, k, ea, ey, q3, q4⟩ => Calls.spliced_nil ?_))))
  subst ey
  cases l : valV kvs k with
  | some v => exact d_pop I3 ea ry l (.inr ⟨fv, rfl⟩) fun w' s4 I4 rw' => ⟨v, _, I4, rw', q3 v l⟩
  | none => exact d_popD I3 ea ry l fun s4 I4 => ⟨z, H3, I4, rz, q4 l⟩
end

/-! ### dict(d): a copy -/
section
variable {X : Cx} {pins : List (Addr × Obj)} {σ : St} {H : Hp} {s : Shared} {a : Addr} {kvs : List (Key × V)} {A : Around} {E : Value → Shared → Prop}
theorem d_copyOf {Q : Value → Shared → Prop} (I : Inv X pins σ H s) (e : Rd H a (.dK kvs)) (h : ∀ p s', H p = none → Inv X pins σ (upd H p (.dK kvs)) s' → Q (.ref p) s') : wpAny (model X.prog X.w) A (call (.type "dict") [.ref a]) Q E s := by
  obtain ⟨z, hd, vs, rel, dd⟩ := dk_rd I.hok e
  refine kt_call_dict hd dd (by rw [← rel.length]; exact z) fun h' dd' hs => ?_
  refine h _ _ (I.hok.fresh (Nat.le_refl _)) (I.laid (a := s.heap.objs.size) (o := .dK kvs) (t' := s.toks) (fun b q hq => ?_) (Nat.le_refl _) (dk_new z (beq_eq_false_iff_ne.mpr (Ne.symm (Nat.ne_of_lt I.big))) rel dd'))
  exact (hs.2 b (Nat.ne_of_lt (Heap.lt_size hq))).trans (Heap.get?_push_of_some _ hq)
end


section
variable {X : Cx} {pins : List (Addr × Obj)} {σ : St} {H : Hp} {s : Shared} {a : Addr} {y : V} {u : Value} {A : Around} {E : Value → Shared → Prop}
/-- d[y], not there: a KeyError -/
theorem d_missing {Q : Value → Shared → Prop} (hu : A.units + 1 < cLine) (hh : A.handled = none) (I : Inv X pins σ H s) (g : DGet H a y none) (ry : RelV y u)
    (h : ∀ h' e t', Heap.NewExc s.heap h' e "KeyError" → E (.ref e) { s with heap := h', toks := t' }) : wpAny (model X.prog X.w) A (getItem (.ref a) u) Q E s := by
  rcases g with ⟨kvs, k, e, ey, l⟩ | ⟨kvs, k, b, e, ey, eb, l⟩
  · subst ey
    obtain ⟨z, hd, vs, rel, dd⟩ := dk_rd I.hok e
    have hn : valueAt vs k = none := RelO.none_of (by rw [l]; exact rel.val k)
    exact wpAny_getItem_missing_of (kV_is ry) hd hh dd.mapOf hn fun h' ex ne => h h' ex _ ne
  · subst ey
    cases (show u = Value.ref b from ry)
    obtain ⟨z, hd, xs, rel, dd⟩ := dt_rd I.hok e
    have hn : (atKey xs k).map (·.2) = none := RelO.none_of (by rw [l]; exact rel.val k)
    exact wpAny_getItem_missing_heap (tupleKind_room_in1 hu) (key_of I.hok eb) hd hh dd (Option.map_eq_none_iff.mp hn) fun h' ex ne => h h' ex _ ne
end
end L2

namespace PN
open PySem L2
/-! ### layers -/
def onL (l : Nat) (p : Post) : Bool := decide (p.1 = l) || decide (p.2 = l)
def laneN (f : Nat → Nat) (p : Post) : Nat := max (f p.1) (f p.2)
def behind (f : Nat → Nat) (p : Post) : Nat → Nat := fun l => if l = p.2 then laneN f p + 1 else if l = p.1 then laneN f p + 1 else f l
def lanesAt (ps : List Post) : Nat → Nat := ps.foldl behind (fun _ => 0)
def gP (ps : List Post) (i : Nat) : Post := ps.getD i (0, 0)
def numAt (ps : List Post) (i : Nat) : Nat := laneN (lanesAt (ps.take i)) (gP ps i)
def deepTo (ps : List Post) : Nat → Nat
  | 0 => 0
  | n + 1 => max (deepTo ps n) (numAt ps n + 1)
def bucket (ps : List Post) (n k : Nat) : List Post := ((List.range n).filter fun i => decide (numAt ps i = k)).map (gP ps)
theorem onL_iff {l : Nat} {p : Post} : onL l p = true ↔ p.1 = l ∨ p.2 = l := by
  unfold onL
  rw [Bool.or_eq_true, decide_eq_true_eq, decide_eq_true_eq]
theorem gP_get {ps : List Post} {i : Nat} {p : Post} (h : ps[i]? = some p) : gP ps i = p := by
  unfold gP
  rw [List.getD_eq_getElem?_getD, h]
  rfl
theorem gP_at {ps : List Post} {i : Nat} (h : i < ps.length) : ps[i]? = some (gP ps i) := by
  have e : ps[i]? = some ps[i] := List.getElem?_eq_getElem h
  rw [gP_get e, e]
theorem lanesAt_take {ps : List Post} {i : Nat} (h : i < ps.length) : lanesAt (ps.take (i + 1)) = behind (lanesAt (ps.take i)) (gP ps i) := by
  unfold lanesAt
  rw [take_snoc (gP_at h), List.foldl_append]
  rfl
theorem behind_on {f : Nat → Nat} {p : Post} {l : Nat} (h : onL l p = true) : behind f p l = laneN f p + 1 := by
  unfold behind
  rcases onL_iff.mp h with e | e
  · by_cases c : l = p.2
    · rw [if_pos c]
    · rw [if_neg c, if_pos e.symm]
  · rw [if_pos e.symm]
theorem behind_off {f : Nat → Nat} {p : Post} {l : Nat} (h : onL l p = false) : behind f p l = f l := by
  have h' : ¬ (p.1 = l ∨ p.2 = l) := fun z => by rw [onL_iff.mpr z] at h; cases h
  unfold behind
  rw [if_neg (fun e => h' (.inr e.symm)), if_neg (fun e => h' (.inl e.symm))]
theorem lane_le {f : Nat → Nat} {p : Post} {l : Nat} (h : onL l p = true) : f l ≤ laneN f p := by
  unfold laneN
  rcases onL_iff.mp h with e | e
  · rw [← e]; exact Nat.le_max_left _ _
  · rw [← e]; exact Nat.le_max_right _ _
theorem behind_ge {f : Nat → Nat} {p : Post} {l : Nat} : f l ≤ behind f p l := by
  cases c : onL l p with
  | true => rw [behind_on c]; exact Nat.le_succ_of_le (lane_le c)
  | false => rw [behind_off c]; exact Nat.le_refl _
theorem lanes_ge {ps : List Post} {i l : Nat} (hon : onL l (gP ps i) = true) : ∀ j, i < j → j ≤ ps.length → numAt ps i + 1 ≤ lanesAt (ps.take j) l
  | 0, h, _ => absurd h (Nat.not_lt_zero _)
  | j + 1, h, hj => by
    rw [lanesAt_take hj]
    by_cases c : i < j
    · exact Nat.le_trans (lanes_ge hon j c (by omega)) behind_ge
    · have e : i = j := by omega
      subst e
      rw [behind_on hon]
      exact Nat.le_refl _
theorem num_lt {ps : List Post} {i j l : Nat} (hij : i < j) (hj : j < ps.length) (h1 : onL l (gP ps i) = true) (h2 : onL l (gP ps j) = true) : numAt ps i < numAt ps j :=
  Nat.lt_of_lt_of_le (lanes_ge h1 j hij (by omega)) (lane_le h2)
theorem lanes_from {ps : List Post} {l : Nat} : ∀ j, j ≤ ps.length → lanesAt (ps.take j) l = 0 ∨ ∃ i, i < j ∧ onL l (gP ps i) = true ∧ lanesAt (ps.take j) l = numAt ps i + 1
  | 0, _ => .inl rfl
  | j + 1, hj => by
    rw [lanesAt_take hj]
    cases c : onL l (gP ps j) with
    | true => exact .inr ⟨j, by omega, c, by rw [behind_on c]; rfl⟩
    | false =>
      rw [behind_off c]
      rcases lanes_from (ps := ps) (l := l) j (by omega) with h | ⟨i, h1, h2, h3⟩
      · exact .inl h
      · exact .inr ⟨i, by omega, h2, h3⟩
theorem num_from {ps : List Post} {j : Nat} (hj : j < ps.length) (h : 0 < numAt ps j) : ∃ i l, i < j ∧ onL l (gP ps i) = true ∧ onL l (gP ps j) = true ∧ numAt ps i + 1 = numAt ps j := by
  have e : numAt ps j = lanesAt (ps.take j) (gP ps j).1 ∨ numAt ps j = lanesAt (ps.take j) (gP ps j).2 := by
    unfold numAt laneN
    omega
  rcases e with e | e
  · rcases lanes_from (ps := ps) (l := (gP ps j).1) j (by omega) with z | ⟨i, h1, h2, h3⟩
    · omega
    · exact ⟨i, _, h1, h2, onL_iff.mpr (.inl rfl), by omega⟩
  · rcases lanes_from (ps := ps) (l := (gP ps j).2) j (by omega) with z | ⟨i, h1, h2, h3⟩
    · omega
    · exact ⟨i, _, h1, h2, onL_iff.mpr (.inr rfl), by omega⟩
theorem num_deep {ps : List Post} : ∀ n i, i < n → numAt ps i < deepTo ps n
  | 0, i, h => absurd h (Nat.not_lt_zero _)
  | n + 1, i, h => by
    show _ < max (deepTo ps n) (numAt ps n + 1)
    by_cases c : i < n
    · have := num_deep (ps := ps) n i c
      omega
    · have e : i = n := by omega
      subst e
      omega
theorem num_le_deep {ps : List Post} {n : Nat} (hn : n < ps.length) : numAt ps n ≤ deepTo ps n := by
  by_cases h : 0 < numAt ps n
  · obtain ⟨i, l, h1, _, _, h2⟩ := num_from hn h
    have := num_deep (ps := ps) n i h1
    omega
  · omega
theorem deep_le {ps : List Post} : ∀ n, n ≤ ps.length → deepTo ps n ≤ n
  | 0, _ => Nat.le_refl _
  | n + 1, h => by
    have h1 := deep_le (ps := ps) n (by omega)
    have h2 := num_le_deep (ps := ps) (n := n) h
    show max (deepTo ps n) (numAt ps n + 1) ≤ n + 1
    omega
theorem bucket_succ (ps : List Post) (n k : Nat) : bucket ps (n + 1) k = bucket ps n k ++ (if numAt ps n = k then [gP ps n] else []) := by
  unfold bucket
  rw [List.range_succ, List.filter_append, List.map_append]
  congr 1
  by_cases c : numAt ps n = k
  · rw [if_pos c, List.filter_cons, if_pos (decide_eq_true c)]
    rfl
  · rw [if_neg c, List.filter_cons, if_neg (by simpa using c)]
    rfl
theorem bucket_empty {ps : List Post} {n k : Nat} (h : deepTo ps n ≤ k) : bucket ps n k = [] := by
  unfold bucket
  rw [List.map_eq_nil_iff, List.filter_eq_nil_iff]
  intro i hi
  have z := num_deep (ps := ps) n i (List.mem_range.mp hi)
  simp
  omega
theorem bucket_full {ps : List Post} : ∀ n k, k < deepTo ps n → n ≤ ps.length → bucket ps n k ≠ []
  | 0, k, h, _ => absurd h (Nat.not_lt_zero _)
  | n + 1, k, h, hn => by
    rw [bucket_succ]
    by_cases c : k < deepTo ps n
    · intro z
      exact bucket_full n k c (by omega) (List.append_eq_nil_iff.mp z).1
    · have z := num_le_deep (ps := ps) (n := n) hn
      have h' : k < max (deepTo ps n) (numAt ps n + 1) := h
      rw [if_pos (by omega)]
      simp
theorem mem_bucket {ps : List Post} {n k : Nat} {p : Post} : p ∈ bucket ps n k ↔ ∃ i, i < n ∧ numAt ps i = k ∧ gP ps i = p := by
  unfold bucket
  rw [List.mem_map]
  constructor
  · rintro ⟨i, hi, e⟩
    obtain ⟨h1, h2⟩ := List.mem_filter.mp hi
    exact ⟨i, List.mem_range.mp h1, by simpa using h2, e⟩
  · rintro ⟨i, h1, h2, e⟩
    exact ⟨i, List.mem_filter.mpr ⟨List.mem_range.mpr h1, by simpa using h2⟩, e⟩
/-- no lane together -/
def Apart (p q : Post) : Prop := ∀ l, onL l p = true → onL l q = true → False
theorem Apart.symm {p q : Post} (h : Apart p q) : Apart q p := fun l a b => h l b a
theorem bucket_apart {ps : List Post} {n k : Nat} (hn : n ≤ ps.length) : (bucket ps n k).Pairwise Apart := by
  unfold bucket
  rw [List.pairwise_map]
  have h0 : (List.range n).Pairwise (· < ·) := List.pairwise_lt_range
  have h1 := h0.filter (fun i => decide (numAt ps i = k))
  refine h1.imp_of_mem fun {a b} ha hb hab l la lb => ?_
  obtain ⟨a1, a2⟩ := List.mem_filter.mp ha
  obtain ⟨b1, b2⟩ := List.mem_filter.mp hb
  have := num_lt hab (show b < ps.length by have := List.mem_range.mp b1; omega) la lb
  simp at a2 b2
  omega
/-- layers of all posts, each in some order -/
structure LayersOf (ps : List Post) (Ls : List (List Post)) : Prop where
  len : Ls.length = deepTo ps ps.length
  at_ : ∀ (k : Nat) (L : List Post), Ls[k]? = some L → L.Perm (bucket ps ps.length k)
theorem LayersOf.apart {ps : List Post} {Ls : List (List Post)} (h : LayersOf ps Ls) {k : Nat} {L : List Post} (e : Ls[k]? = some L) : L.Pairwise Apart :=
  ((h.at_ k L e).pairwise_iff fun {a b} z => Apart.symm z).mpr (bucket_apart (Nat.le_refl _))
theorem LayersOf.full {ps : List Post} {Ls : List (List Post)} (h : LayersOf ps Ls) {k : Nat} {L : List Post} (e : Ls[k]? = some L) : L ≠ [] := fun z => by
  have hk := (List.getElem?_eq_some_iff.mp e).1
  rw [h.len] at hk
  have p := h.at_ k L e
  rw [z] at p
  exact bucket_full _ _ hk (Nat.le_refl _) p.symm.eq_nil
theorem LayersOf.touch {ps : List Post} {Ls : List (List Post)} (h : LayersOf ps Ls) {k : Nat} {L A : List Post} (e : Ls[k + 1]? = some L) (ea : Ls[k]? = some A) {p : Post} (hp : p ∈ L) : ∃ q ∈ A, ∃ l, onL l p = true ∧ onL l q = true := by
  obtain ⟨j, hj, hk, e2⟩ := mem_bucket.mp ((h.at_ _ _ e).mem_iff.mp hp)
  obtain ⟨i, l, h1, h2, h3, h4⟩ := num_from hj (by omega)
  refine ⟨gP ps i, (h.at_ _ _ ea).mem_iff.mpr (mem_bucket.mpr ⟨i, by omega, by omega, rfl⟩), l, ?_, h2⟩
  rw [← e2]
  exact h3
theorem LayersOf.mem {ps : List Post} {Ls : List (List Post)} (h : LayersOf ps Ls) {k : Nat} {L : List Post} (e : Ls[k]? = some L) {p : Post} (hp : p ∈ L) : p ∈ ps := by
  obtain ⟨j, hj, hk, e2⟩ := mem_bucket.mp ((h.at_ _ _ e).mem_iff.mp hp)
  rw [← e2]
  exact List.mem_of_getElem? (gP_at hj)
/-! the same posts on each lane -/
theorem perm_one {α : Type} {a b : List α} (h : a.Perm b) (hl : b.length ≤ 1) : a = b := by
  match b, hl, h with
  | [], _, h => exact h.eq_nil
  | [x], _, h => exact List.perm_singleton.mp h
  | _ :: _ :: _, hl, _ => simp at hl
theorem buckets {S : List Nat} {num : Nat → Nat} {K : Nat} (hs : S.Pairwise fun a b => num a < num b) (hk : ∀ a ∈ S, num a < K) : ((List.range K).map fun k => S.filter fun i => decide (num i = k)).flatten = S := by
  induction S generalizing K with
  | nil =>
    rw [List.flatten_eq_nil_iff]
    intro l hl
    obtain ⟨k, _, e⟩ := List.mem_map.mp hl
    rw [← e]
    rfl
  | cons a S ih =>
    obtain ⟨h1, h2⟩ := List.pairwise_cons.mp hs
    have ih' := ih h2 (fun b hb => hk b (List.mem_cons_of_mem _ hb))
    have ha := hk a List.mem_cons_self
    obtain ⟨d, rfl⟩ : ∃ d, K = num a + 1 + d := ⟨K - (num a + 1), by omega⟩
    have small : ∀ k, k ≤ num a → S.filter (fun i => decide (num i = k)) = [] := fun k hle => by
      rw [List.filter_eq_nil_iff]
      intro b hb
      have := h1 b hb
      simp
      omega
    have z0 : ∀ f : Nat → List Nat, (∀ k, k < num a → f k = []) → ((List.range (num a)).map f).flatten = [] := fun f hf => by
      rw [List.flatten_eq_nil_iff]
      intro l hl
      obtain ⟨k, hk', e⟩ := List.mem_map.mp hl
      rw [← e]
      exact hf k (List.mem_range.mp hk')
    rw [List.range_add, List.range_succ] at ih' ⊢
    simp only [List.map_append, List.flatten_append, List.map_cons, List.map_nil, List.flatten_cons, List.flatten_nil, List.append_nil] at ih' ⊢
    rw [z0 _ fun k hlt => small k (by omega), small _ (Nat.le_refl _)] at ih'
    rw [z0 _ fun k hlt => by rw [List.filter_cons, if_neg (by simp; omega)]; exact small k (by omega)]
    rw [List.filter_cons, if_pos (by simp), small _ (Nat.le_refl _)]
    rw [List.nil_append, List.nil_append] at ih'
    rw [List.nil_append]
    refine congrArg (List.cons a) (Eq.trans (congrArg List.flatten (List.map_congr_left fun k hk' => ?_)) ih')
    obtain ⟨m, _, e⟩ := List.mem_map.mp hk'
    rw [List.filter_cons, if_neg (by simp; omega)]
theorem range_gP (ps : List Post) : (List.range ps.length).map (gP ps) = ps := by
  refine List.ext_getElem (by simp) fun i h1 h2 => ?_
  rw [List.getElem_map, List.getElem_range]
  have := gP_at h2
  rw [List.getElem?_eq_getElem h2] at this
  exact (Option.some.inj this).symm
theorem filter_one {l : Nat} : ∀ {L : List Post}, L.Pairwise Apart → (L.filter (onL l)).length ≤ 1
  | [], _ => Nat.zero_le _
  | p :: L, h => by
    obtain ⟨h1, h2⟩ := List.pairwise_cons.mp h
    rw [List.filter_cons]
    split
    · rename_i c
      have z : L.filter (onL l) = [] := by
        rw [List.filter_eq_nil_iff]
        intro q hq e
        exact h1 q hq l c e
      rw [z]
      exact Nat.le_refl _
    · exact filter_one h2
theorem LayersOf.lane {ps : List Post} {Ls : List (List Post)} (h : LayersOf ps Ls) (l : Nat) : Ls.flatten.filter (onL l) = ps.filter (onL l) := by
  have e1 : Ls.map (List.filter (onL l)) = (List.range (deepTo ps ps.length)).map fun k => (bucket ps ps.length k).filter (onL l) := by
    refine List.ext_getElem (by rw [List.length_map, List.length_map, List.length_range, h.len]) fun k h1 h2 => ?_
    rw [List.getElem_map, List.getElem_map, List.getElem_range]
    have hk : k < Ls.length := by simpa using h1
    exact perm_one ((h.at_ k _ (List.getElem?_eq_getElem hk)).filter _) (filter_one (bucket_apart (Nat.le_refl _)))
  have e2 : ∀ k, (bucket ps ps.length k).filter (onL l) = (((List.range ps.length).filter fun i => onL l (gP ps i)).filter fun i => decide (numAt ps i = k)).map (gP ps) := fun k => by
    unfold bucket
    rw [List.filter_map, List.filter_filter, List.filter_filter]
    congr 1
    refine List.filter_congr fun i _ => ?_
    show (onL l (gP ps i) && decide (numAt ps i = k)) = (decide (numAt ps i = k) && onL l (gP ps i))
    rw [Bool.and_comm]
  have hS : ((List.range ps.length).filter fun i => onL l (gP ps i)).Pairwise fun a b => numAt ps a < numAt ps b := by
    have h0 : (List.range ps.length).Pairwise (· < ·) := List.pairwise_lt_range
    refine (h0.filter _).imp_of_mem fun {a b} ha hb hab => ?_
    obtain ⟨a1, a2⟩ := List.mem_filter.mp ha
    obtain ⟨b1, b2⟩ := List.mem_filter.mp hb
    exact num_lt hab (List.mem_range.mp b1) a2 b2
  have e3 := buckets (K := deepTo ps ps.length) hS fun a ha => num_deep _ a (List.mem_range.mp (List.mem_filter.mp ha).1)
  have e4 := congrArg (List.map (gP ps)) e3
  rw [List.map_flatten, List.map_map] at e4
  rw [List.filter_flatten, e1]
  rw [show (fun k => (bucket ps ps.length k).filter (onL l)) = List.map (gP ps) ∘ (fun k => ((List.range ps.length).filter fun i => onL l (gP ps i)).filter fun i => decide (numAt ps i = k)) from funext e2, e4]
  have e5 : ((List.range ps.length).filter fun i => onL l (gP ps i)).map (gP ps) = ((List.range ps.length).map (gP ps)).filter (onL l) := by
    rw [List.filter_map]
    rfl
  rw [e5, range_gP]
/-! posts that are apart change places -/
theorem step_apart {xs : List Int} {p q : Post} (hp1 : p.1 < xs.length) (hp2 : p.2 < xs.length) (hq1 : q.1 < xs.length) (hq2 : q.2 < xs.length) (h : Apart p q) : stepRow (stepRow xs p) q = stepRow (stepRow xs q) p := by
  have a1 : p.1 ≠ q.1 := fun e => h p.1 (onL_iff.mpr (.inl rfl)) (onL_iff.mpr (.inl e.symm))
  have a2 : p.1 ≠ q.2 := fun e => h p.1 (onL_iff.mpr (.inl rfl)) (onL_iff.mpr (.inr e.symm))
  have a3 : p.2 ≠ q.1 := fun e => h p.2 (onL_iff.mpr (.inr rfl)) (onL_iff.mpr (.inl e.symm))
  have a4 : p.2 ≠ q.2 := fun e => h p.2 (onL_iff.mpr (.inr rfl)) (onL_iff.mpr (.inr e.symm))
  refine getD_ext (by simp only [stepRow_length]) fun j hj => ?_
  rw [stepRow_get (by rw [stepRow_length]; exact hq1) (by rw [stepRow_length]; exact hq2), stepRow_get (xs := stepRow xs q) (by rw [stepRow_length]; exact hp1) (by rw [stepRow_length]; exact hp2)]
  simp only [stepRow_get hp1 hp2, stepRow_get hq1 hq2]
  rw [if_neg (Ne.symm a4), if_neg (Ne.symm a2), if_neg (Ne.symm a3), if_neg (Ne.symm a1), if_neg a4, if_neg a3, if_neg a2, if_neg a1]
  simp only [ite_self]
  by_cases cp : xs.getD p.2 0 < xs.getD p.1 0 <;> by_cases cq : xs.getD q.2 0 < xs.getD q.1 0 <;> simp only [cp, cq, if_true, if_false] <;> by_cases j1 : j = p.1 <;> by_cases j2 : j = p.2 <;> by_cases j3 : j = q.1 <;> by_cases j4 : j = q.2 <;> simp_all <;> omega
theorem pass_apart {w : Nat} {p : Post} : ∀ (as : List Post) (xs : List Int), xs.length = w → Net w as → p.1 < w → p.2 < w → (∀ q ∈ as, Apart p q) → passAll as (stepRow xs p) = stepRow (passAll as xs) p
  | [], _, _, _, _, _, _ => rfl
  | q :: as, xs, hx, hn, h1, h2, h => by
    obtain ⟨n1, n2⟩ := hn q List.mem_cons_self
    show passAll as (stepRow (stepRow xs p) q) = stepRow (passAll as (stepRow xs q)) p
    rw [step_apart (by omega) (by omega) (by omega) (by omega) (h q List.mem_cons_self)]
    exact pass_apart as (stepRow xs q) (by rw [stepRow_length]; exact hx) (fun r hr => hn r (List.mem_cons_of_mem _ hr)) h1 h2 fun r hr => h r (List.mem_cons_of_mem _ hr)
theorem lanes_same {w : Nat} : ∀ (ps qs : List Post), Net w qs → (∀ l, ps.filter (onL l) = qs.filter (onL l)) → ps.length = qs.length ∧ ∀ xs : List Int, xs.length = w → passAll ps xs = passAll qs xs
  | [], qs, hn, h => by
    match qs, h with
    | [], _ => exact ⟨rfl, fun _ _ => rfl⟩
    | q :: qs, h =>
      have z := h q.1
      rw [List.filter_cons, if_pos (onL_iff.mpr (.inl rfl))] at z
      cases z
  | p :: ps, qs, hn, h => by
    have z := h p.1
    rw [List.filter_cons, if_pos (onL_iff.mpr (.inl rfl))] at z
    obtain ⟨as, bs, rfl, h1, h2, h3⟩ := List.filter_eq_cons_iff.mp z.symm
    have y := h p.2
    rw [List.filter_cons, if_pos (onL_iff.mpr (.inr rfl)), List.filter_append, List.filter_cons, if_pos (onL_iff.mpr (.inr rfl))] at y
    have h4 : as.filter (onL p.2) = [] := by
      cases e : as.filter (onL p.2) with
      | nil => rfl
      | cons a r =>
        rw [e] at y
        have ea : p = a := (List.cons.inj y).1
        have ma : a ∈ as.filter (onL p.2) := by rw [e]; exact List.mem_cons_self
        exact absurd (onL_iff.mpr (.inl (by rw [← ea]))) (h1 a (List.mem_filter.mp ma).1)
    rw [h4] at y
    have h5 : ps.filter (onL p.2) = bs.filter (onL p.2) := (List.cons.inj y).2
    have ap : ∀ q ∈ as, Apart p q := fun q hq l hp hql => by
      rcases onL_iff.mp hp with e | e
      · subst e
        exact h1 q hq hql
      · subst e
        exact List.filter_eq_nil_iff.mp h4 q hq hql
    have hnA : Net w as := fun q hq => hn q (List.mem_append_left _ hq)
    have hnB : Net w bs := fun q hq => hn q (List.mem_append_right _ (List.mem_cons_of_mem _ hq))
    obtain ⟨np1, np2⟩ := hn p (List.mem_append_right _ List.mem_cons_self)
    obtain ⟨i1, i2⟩ := lanes_same ps (as ++ bs) (fun q hq => (List.mem_append.mp hq).elim (hnA q) (hnB q)) fun l => by
      rw [List.filter_append]
      cases c : onL l p with
      | true =>
        have e0 : as.filter (onL l) = [] := by
          rw [List.filter_eq_nil_iff]
          intro q hq e
          exact ap q hq l c e
        rw [e0, List.nil_append]
        rcases onL_iff.mp c with e | e
        · subst e
          exact h3.symm
        · subst e
          exact h5
      | false =>
        have e := h l
        rw [List.filter_cons, if_neg (by simp [c]), List.filter_append, List.filter_cons, if_neg (by simp [c])] at e
        exact e
    refine ⟨?_, fun xs hx => ?_⟩
    · rw [List.length_append, List.length_cons, List.length_cons, i1, List.length_append]
      omega
    · rw [passAll_app]
      show passAll ps (stepRow xs p) = passAll bs (stepRow (passAll as xs) p)
      rw [i2 _ (by rw [stepRow_length]; exact hx), passAll_app, pass_apart as xs hx hnA (by omega) np2 ap]
theorem LayersOf.net {w : Nat} {ps : List Post} {Ls : List (List Post)} (h : LayersOf ps Ls) (hn : Net w ps) : Net w Ls.flatten := fun p hp => by
  obtain ⟨L, hL, hpL⟩ := List.mem_flatten.mp hp
  obtain ⟨k, hk⟩ := List.mem_iff_getElem?.mp hL
  exact hn p (h.mem hk hpL)
theorem LayersOf.pass {w : Nat} {ps : List Post} {Ls : List (List Post)} (h : LayersOf ps Ls) (hn : Net w ps) : ps.length = Ls.flatten.length ∧ ∀ xs : List Int, xs.length = w → passAll ps xs = passAll Ls.flatten xs :=
  lanes_same ps Ls.flatten (h.net hn) fun l => (h.lane l).symm
end PN

namespace PN
open PySem L2
/-! ### chains -/
def shareB (p q : Post) : Bool := onL p.1 q || onL p.2 q
theorem shareB_of {p q : Post} {l : Nat} (h1 : onL l p = true) (h2 : onL l q = true) : shareB p q = true := by
  unfold shareB
  rw [Bool.or_eq_true]
  rcases onL_iff.mp h1 with e | e
  · exact .inl (by rw [e]; exact h2)
  · exact .inr (by rw [e]; exact h2)
theorem shareB_on {p q : Post} (h : shareB p q = true) : ∃ l, onL l p = true ∧ onL l q = true := by
  unfold shareB at h
  rw [Bool.or_eq_true] at h
  rcases h with h | h
  · exact ⟨p.1, onL_iff.mpr (.inl rfl), h⟩
  · exact ⟨p.2, onL_iff.mpr (.inr rfl), h⟩
theorem share_lt {ps : List Post} {i j : Nat} (hij : i < j) (hj : j < ps.length) (h : shareB (gP ps i) (gP ps j) = true) : numAt ps i < numAt ps j := by
  obtain ⟨l, h1, h2⟩ := shareB_on h
  exact num_lt hij hj h1 h2
theorem share_from {ps : List Post} {j : Nat} (hj : j < ps.length) (h : 0 < numAt ps j) : ∃ i, i < j ∧ shareB (gP ps i) (gP ps j) = true ∧ numAt ps i + 1 = numAt ps j := by
  obtain ⟨i, l, h1, h2, h3, h4⟩ := num_from hj h
  exact ⟨i, h1, shareB_of h2 h3, h4⟩
/-- the numbers, one more each, of earlier posts that share a lane -/
def mineTo (ps : List Post) (k : Nat) : Nat → List Int
  | 0 => []
  | j + 1 => mineTo ps k j ++ (if shareB (gP ps j) (gP ps k) = true then [((numAt ps j + 1 : Nat) : Int)] else [])
theorem mem_mine {ps : List Post} {k : Nat} {m : Int} : ∀ j, m ∈ mineTo ps k j ↔ ∃ i, i < j ∧ shareB (gP ps i) (gP ps k) = true ∧ m = ((numAt ps i + 1 : Nat) : Int)
  | 0 => by
    constructor
    · intro h
      cases h
    · rintro ⟨i, h, _⟩
      omega
  | j + 1 => by
    rw [show mineTo ps k (j + 1) = mineTo ps k j ++ (if shareB (gP ps j) (gP ps k) = true then [((numAt ps j + 1 : Nat) : Int)] else []) from rfl, List.mem_append, mem_mine j]
    constructor
    · rintro (⟨i, h1, h2, h3⟩ | h)
      · exact ⟨i, by omega, h2, h3⟩
      · split at h
        · rename_i c
          exact ⟨j, by omega, c, List.mem_singleton.mp h⟩
        · cases h
    · rintro ⟨i, h1, h2, h3⟩
      by_cases c : i = j
      · subst c
        right
        rw [if_pos h2]
        exact List.mem_singleton.mpr h3
      · exact .inl ⟨i, by omega, h2, h3⟩
theorem mine_length {ps : List Post} {k : Nat} : ∀ j, (mineTo ps k j).length ≤ j
  | 0 => Nat.le_refl _
  | j + 1 => by
    have ih := mine_length (ps := ps) (k := k) j
    show (mineTo ps k j ++ _).length ≤ j + 1
    rw [List.length_append]
    split
    · show _ + 1 ≤ _
      omega
    · show _ + 0 ≤ _
      omega
theorem mine_none {ps : List Post} {k : Nat} (hk : k < ps.length) (h : mineTo ps k k = []) : numAt ps k = 0 := by
  refine Nat.eq_zero_of_not_pos fun c => ?_
  obtain ⟨i, h1, h2, h3⟩ := share_from hk c
  have z : ((numAt ps i + 1 : Nat) : Int) ∈ mineTo ps k k := (mem_mine k).mpr ⟨i, h1, h2, rfl⟩
  rw [h] at z
  cases z
theorem mine_max {ps : List Post} {k : Nat} (hk : k < ps.length) {m : Int} (hm : m ∈ mineTo ps k k) (ha : ∀ y ∈ mineTo ps k k, y ≤ m) : m = ((numAt ps k : Nat) : Int) := by
  obtain ⟨i, h1, h2, h3⟩ := (mem_mine k).mp hm
  have l1 := share_lt h1 hk h2
  obtain ⟨j, g1, g2, g3⟩ := share_from hk (by omega)
  have l2 := ha _ ((mem_mine k).mpr ⟨j, g1, g2, rfl⟩)
  omega
/-- the longest chain's length, by the list of numbers -/
def deepI (ps : List Post) (n : Nat) : List Int := (List.range n).map fun i => ((numAt ps i + 1 : Nat) : Int)
theorem deepI_succ (ps : List Post) (n : Nat) : deepI ps (n + 1) = deepI ps n ++ [((numAt ps n + 1 : Nat) : Int)] := by
  unfold deepI
  rw [List.range_succ, List.map_append]
  rfl
theorem deepI_length (ps : List Post) (n : Nat) : (deepI ps n).length = n := by
  unfold deepI
  rw [List.length_map, List.length_range]
theorem deepI_get {ps : List Post} {n i : Nat} (h : i < n) : (deepI ps n)[i]? = some ((numAt ps i + 1 : Nat) : Int) := by
  unfold deepI
  rw [List.getElem?_map, List.getElem?_range h]
  rfl
theorem deep_attained {ps : List Post} : ∀ n, 0 < n → ∃ i, i < n ∧ numAt ps i + 1 = deepTo ps n
  | 0, h => absurd h (Nat.lt_irrefl _)
  | n + 1, _ => by
    have e : deepTo ps (n + 1) = max (deepTo ps n) (numAt ps n + 1) := rfl
    by_cases c : deepTo ps n ≤ numAt ps n + 1
    · exact ⟨n, by omega, by omega⟩
    · by_cases c0 : n = 0
      · subst c0
        have : deepTo ps 0 = 0 := rfl
        omega
      · obtain ⟨i, h1, h2⟩ := deep_attained (ps := ps) n (by omega)
        exact ⟨i, by omega, by omega⟩
theorem deepI_max {ps : List Post} {n : Nat} {m : Int} (hm : m ∈ deepI ps n) (ha : ∀ y ∈ deepI ps n, y ≤ m) : m = ((deepTo ps n : Nat) : Int) := by
  obtain ⟨i, hi, e⟩ := List.mem_map.mp hm
  have l1 := num_deep (ps := ps) n i (List.mem_range.mp hi)
  obtain ⟨j, g1, g2⟩ := deep_attained (ps := ps) n (by have := List.mem_range.mp hi; omega)
  have l2 := ha _ (List.mem_map.mpr ⟨j, List.mem_range.mpr g1, rfl⟩)
  omega
def Links (ps : List Post) : List Nat → Prop
  | [] => True
  | [_] => True
  | x :: y :: r => x < y ∧ shareB (gP ps x) (gP ps y) = true ∧ Links ps (y :: r)
theorem Links.at {ps : List Post} : ∀ {g : List Nat}, Links ps g → ∀ k x y, g[k]? = some x → g[k + 1]? = some y → x < y ∧ shareB (gP ps x) (gP ps y) = true
  | [], _, k, x, y, h1, _ => by simp at h1
  | [a], _, k, x, y, _, h2 => by simp at h2
  | a :: b :: r, h, 0, x, y, h1, h2 => by
    cases h1
    cases h2
    exact ⟨h.1, h.2.1⟩
  | a :: b :: r, h, k + 1, x, y, h1, h2 => Links.at (g := b :: r) h.2.2 k x y (by simpa using h1) (by simpa using h2)
/-- what is known with the posts from r on seen; g: the numbers taken, the newest first -/
structure Chn (ps : List Post) (r : Nat) (g : List Nat) : Prop where
  inn : ∀ x ∈ g, r ≤ x ∧ x < ps.length
  links : Links ps g
  num : ∀ c, g.head? = some c → numAt ps c + g.length = deepTo ps ps.length
  none : g = [] → ∀ j, r ≤ j → j < ps.length → numAt ps j + 1 ≠ deepTo ps ps.length
  some_ : ∀ c, g.head? = some c → ∀ j, r ≤ j → j < c → shareB (gP ps j) (gP ps c) = true → numAt ps j + 1 ≠ numAt ps c
theorem Chn.start (ps : List Post) : Chn ps ps.length [] := ⟨fun x h => (by cases h), trivial, fun c h => (by cases h), fun _ j h1 h2 => (by omega), fun c h => (by cases h)⟩
theorem Chn.len {ps : List Post} {r : Nat} {g : List Nat} (h : Chn ps r g) : g.length ≤ deepTo ps ps.length := by
  cases g with
  | nil => exact Nat.zero_le _
  | cons c g =>
    have := h.num c rfl
    omega
theorem Chn.take {ps : List Post} {r : Nat} {g : List Nat} (h : Chn ps (r + 1) g) (hr : r < ps.length) (e : numAt ps r + 1 + g.length = deepTo ps ps.length) (hs : ∀ c, g.head? = some c → shareB (gP ps r) (gP ps c) = true) : Chn ps r (r :: g) := by
  refine ⟨fun x hx => ?_, ?_, fun c hc => ?_, fun z => (by cases z), fun c hc j h1 h2 => ?_⟩
  · rcases List.mem_cons.mp hx with z | z
    · omega
    · have := h.inn x z
      omega
  · cases g with
    | nil => exact trivial
    | cons c g =>
      have := h.inn c List.mem_cons_self
      exact ⟨by omega, hs c rfl, h.links⟩
  · cases hc
    rw [List.length_cons]
    omega
  · cases hc
    omega
theorem Chn.skip {ps : List Post} {r : Nat} {g : List Nat} (h : Chn ps (r + 1) g) (hr : r < ps.length) (hn : g = [] → numAt ps r + 1 ≠ deepTo ps ps.length) (hs : ∀ c, g.head? = some c → shareB (gP ps r) (gP ps c) = true → numAt ps r + 1 ≠ numAt ps c) : Chn ps r g := by
  refine ⟨fun x hx => ?_, h.links, h.num, fun z j h1 h2 => ?_, fun c hc j h1 h2 h3 => ?_⟩
  · have := h.inn x hx
    omega
  · by_cases c : j = r
    · rw [c]
      exact hn z
    · exact h.none z j (by omega) h2
  · by_cases e : j = r
    · subst e
      exact hs c hc h3
    · exact h.some_ c hc j (by omega) h2 h3
theorem Chn.done {ps : List Post} {g : List Nat} (h : Chn ps 0 g) : g.length = deepTo ps ps.length := by
  cases g with
  | nil =>
    by_cases c : 0 < ps.length
    · obtain ⟨i, h1, h2⟩ := deep_attained (ps := ps) ps.length c
      exact absurd h2 (h.none rfl i (Nat.zero_le _) h1)
    · have e : ps.length = 0 := by omega
      rw [e]
      rfl
  | cons c g =>
    have e := h.num c rfl
    by_cases z : 0 < numAt ps c
    · obtain ⟨j, h1, h2, h3⟩ := share_from (h.inn c List.mem_cons_self).2 z
      exact absurd h3 (h.some_ c rfl j (Nat.zero_le _) h1 h2)
    · omega
end PN

namespace PN
open PySem L2
/-! ### numbers in lists, lanes in posts -/
theorem inV_ints (x : Int) : ∀ ys : List Int, inV (.int x) (ys.map V.int) = decide (x ∈ ys)
  | [] => by simp [inV]
  | y :: ys => by
    have ih := inV_ints x ys
    unfold inV at ih ⊢
    rw [List.map_cons, List.any_cons, ih]
    show ((y == x) || decide (x ∈ ys)) = decide (x ∈ y :: ys)
    by_cases c : y = x
    · subst c
      simp
    · have c' : x ≠ y := fun e => c e.symm
      simp [c, c']
theorem flat_ints : ∀ ys : List Int, (ys.map V.int).all flatV = true
  | [] => rfl
  | y :: ys => by
    rw [List.map_cons, List.all_cons, flat_ints ys]
    rfl
theorem inV_pair (l : Nat) (p : Post) : inV (.int ((l : Nat) : Int)) [.int ((p.1 : Nat) : Int), .int ((p.2 : Nat) : Int)] = onL l p := by
  have e := inV_ints ((l : Nat) : Int) [((p.1 : Nat) : Int), ((p.2 : Nat) : Int)]
  rw [show [V.int ((p.1 : Nat) : Int), V.int ((p.2 : Nat) : Int)] = [((p.1 : Nat) : Int), ((p.2 : Nat) : Int)].map V.int from rfl, e, Bool.eq_iff_iff, decide_eq_true_eq, onL_iff]
  simp only [List.mem_cons, List.not_mem_nil, or_false]
  omega
theorem leP_anti {a b : Post} (h : leP a b) (k : leP b a) : a = b := by
  unfold leP at h k
  exact Prod.ext (by omega) (by omega)
theorem sorted_posts : ∀ {a b : List Post}, a.Perm b → a.Pairwise leP → b.Pairwise leP → a = b
  | [], b, h, _, _ => h.symm.eq_nil.symm
  | x :: a, [], h, _, _ => by simpa using h.length_eq
  | x :: a, y :: b, h, ha, hb => by
    obtain ⟨a1, a2⟩ := List.pairwise_cons.mp ha
    obtain ⟨b1, b2⟩ := List.pairwise_cons.mp hb
    have e : x = y := by
      have mx : x ∈ y :: b := h.mem_iff.mp List.mem_cons_self
      have my : y ∈ x :: a := h.mem_iff.mpr List.mem_cons_self
      rcases List.mem_cons.mp mx with z | z
      · exact z
      · rcases List.mem_cons.mp my with z' | z'
        · exact z'.symm
        · exact leP_anti (a1 y z') (b1 x z)
    subst e
    rw [sorted_posts ((List.perm_cons x).mp h) a2 b2]
theorem take_flat {Ls : List (List Post)} {j : Nat} {L : List Post} (h : Ls[j]? = some L) : (Ls.take (j + 1)).flatten = (Ls.take j).flatten ++ L := by
  rw [take_snoc h, List.flatten_append]
  simp
theorem flat_len_le {Ls : List (List Post)} (j : Nat) : (Ls.take j).flatten.length ≤ Ls.flatten.length := by
  have e : Ls.flatten = (Ls.take j).flatten ++ (Ls.drop j).flatten := by rw [← List.flatten_append, List.take_append_drop]
  rw [e, List.length_append]
  omega
end PN

namespace L2
open PySem
/-! ### max(xs, default = d) of a list of ints -/
section
variable {pg : Program} {wo : World} {Ar : Around} {RR : Result → Shared → Prop} {It : Addr} {fo wo' : List Addr} {n : Nat} {Pv : Nat → Value → Prop} {Sv : Nat → Heap → Prop} {kw : List (Str × Value)}
theorem maxLoopK (W : Walks pg wo Ar.in1 It fo wo' n Pv Sv) (bt : Nat → Nat → Bool) (hcmp : CmpOf pg wo Ar.in1 .Gt Pv bt) (B : Addr) (hB : B ∉ fo) : ∀ (k j : Nat) (s : Shared) (vb : Value) (c : Nat), n - (j + 1) = k → j + 1 ≤ n → Sv (j + 1) s.heap → Pv (argBest bt j) vb →
      s.heap.get? B = some { cls := .type "list", dict := none, data := .seq #[vb, vb] c, slots := #[] } → (∀ v h' tk, Pv (argBest bt (n - 1)) v → (∀ b o, b ∉ wo' → b ≠ B → s.heap.get? b = some o → h'.get? b = some o) → RR (.ok (.ret v)) { s with heap := h', toks := tk }) →
      codeAny (model pg wo) Ar (.builtin "max.loop" ⟨[.ref It, .none, .ref B], kw⟩) RR s := by
  have hBw : B ∉ wo' := fun h => hB (W.sub _ h)
  have hnm : (toString "max" ++ toString ".loop" : String) = "max.loop" := by decide
  intro k
  induction k with
  | zero =>
    intro j s vb c hk hj hst hPb hS hR
    have ein : j + 1 = n := by omega
    refine codeAny_builtin F.entry_max_loop ?_
    rw [Around.under_plainId F.plain_max_loop _]
    show wpAny _ Ar.in1 (seqItems? (.ref B) >>= _) _ _ s
    refine wpAny_bind (wpAny_seqItems hS rfl ?_)
    show wpAny _ Ar.in1 (tryCatch (pyNext (.ref It)) _ >>= _) _ _ s
    refine wpAny_bind (wpAny_tryCatch (W.done s _ _ (ein ▸ hst) fun h1 tk kp => ?_))
    have hS1 := kp B _ hBw hS
    show wpAny _ Ar.in1 (updateSeq B (fun _ => #[]) >>= _) _ _ _
    refine wpAny_bind (wpAny_updateSeq hS1 rfl (wpAny_bind (wpAny_letGo (wpAny_pure ?_))))
    exact hR vb _ tk (by rw [← ein]; exact hPb) fun b o hb1 hb2 e => (Heap.get?_update_other _ _ (Ne.symm hb2)).trans (kp b o hb1 e)
  | succ k ih =>
    intro j s vb c hk hj hst hPb hS hR
    have jlt : j + 1 < n := by omega
    refine codeAny_builtin F.entry_max_loop ?_
    rw [Around.under_plainId F.plain_max_loop _]
    show wpAny _ Ar.in1 (seqItems? (.ref B) >>= _) _ _ s
    refine wpAny_bind (wpAny_seqItems hS rfl ?_)
    show wpAny _ Ar.in1 (tryCatch (pyNext (.ref It)) _ >>= _) _ _ s
    refine wpAny_bind (wpAny_tryCatch (W.item (j + 1) s _ _ jlt hst fun v h1 tk hP st1 kp => ?_))
    have hS1 := kp B _ hBw hS
    show wpAny _ Ar.in1 (tryCatch (holding [v, v] (richCompare .Gt v vb >>= _)) _ >>= _) _ _ _
    refine wpAny_bind (wpAny_tryCatch (wpAny_holding (wpAny_bind (hcmp (j + 1) (argBest bt j) v vb _ _ _ hP hPb (wpAny_bind (wpAny_holding (wpAny_truthy_bool (wpAny_bind (wpAny_letGo (wpAny_pure ?_)))))))))) 
    cases hb : bt (j + 1) (argBest bt j) with
    | true =>
      simp only [if_true]
      refine wpAny_bind (wpAny_updateSeq hS1 rfl (wpAny_bind (wpAny_letGo ?_)))
      rw [hnm]
      refine wpAny_pure ⟨plainId_quiet F.plain_max_loop _, ih (j + 1) _ v _ (by omega) jlt (W.frame _ _ _ st1 fun b hbf o e => ?_) (by simp only [argBest, hb, if_true]; exact hP) (Heap.get?_update_self _ hS1 rfl) fun v2 h2 tk2 hP2 kp2 => ?_⟩
      · exact (Heap.get?_update_other _ _ (fun h : B = b => hB (by rw [h]; exact hbf))).trans e
      · exact hR v2 h2 tk2 hP2 fun b o hb1 hb2 e => kp2 b o hb1 hb2 ((Heap.get?_update_other _ _ (Ne.symm hb2)).trans (kp b o hb1 e))
    | false =>
      simp only [Bool.false_eq_true, if_false]
      refine wpAny_bind (wpAny_letGo ?_)
      rw [hnm]
      exact wpAny_pure ⟨plainId_quiet F.plain_max_loop _, ih (j + 1) _ vb c (by omega) jlt st1 (by simp only [argBest, hb, Bool.false_eq_true, if_false]; exact hPb) hS1 fun v2 h2 tk2 hP2 kp2 => hR v2 h2 tk2 hP2 fun b o hb1 hb2 e => kp2 b o hb1 hb2 (kp b o hb1 e)⟩
theorem maxFirstK (W : Walks pg wo Ar.in1 It fo wo' n Pv Sv) (bt : Nat → Nat → Bool) (hcmp : CmpOf pg wo Ar.in1 .Gt Pv bt) (B : Addr) (hB : B ∉ fo) {s : Shared} {c : Nat} {x : Str} {d : Value} (hst : Sv 0 s.heap)
    (hS : s.heap.get? B = some { cls := .type "list", dict := none, data := .seq #[] c, slots := #[] })
    (hR : ∀ v h' tk, (n = 0 ∧ v = d) ∨ (0 < n ∧ Pv (argBest bt (n - 1)) v) → (∀ b o, b ∉ wo' → b ≠ B → s.heap.get? b = some o → h'.get? b = some o) → RR (.ok (.ret v)) { s with heap := h', toks := tk }) :
    codeAny (model pg wo) Ar (.builtin "max.loop" ⟨[.ref It, .none, .ref B], [(x, d)]⟩) RR s := by
  have hBw : B ∉ wo' := fun h => hB (W.sub _ h)
  have hnm : (toString "max" ++ toString ".loop" : String) = "max.loop" := by decide
  refine codeAny_builtin F.entry_max_loop ?_
  rw [Around.under_plainId F.plain_max_loop _]
  show wpAny _ Ar.in1 (seqItems? (.ref B) >>= _) _ _ s
  refine wpAny_bind (wpAny_seqItems hS rfl ?_)
  show wpAny _ Ar.in1 (tryCatch (pyNext (.ref It)) _ >>= _) _ _ s
  by_cases hn : 0 < n
  · refine wpAny_bind (wpAny_tryCatch (W.item 0 s _ _ hn hst fun v h1 tk hP st1 kp => ?_))
    have hS1 := kp B _ hBw hS
    show wpAny _ Ar.in1 (updateSeq B (fun _ => #[v, v]) >>= _) _ _ _
    refine wpAny_bind (wpAny_updateSeq hS1 rfl ?_)
    rw [hnm]
    refine wpAny_pure ⟨plainId_quiet F.plain_max_loop _, maxLoopK W bt hcmp B hB _ 0 _ v _ rfl hn (W.frame _ _ _ st1 fun b hbf o e => ?_) hP (Heap.get?_update_self _ hS1 rfl) fun v2 h2 tk2 hP2 kp2 => ?_⟩
    · exact (Heap.get?_update_other _ _ (fun h : B = b => hB (by rw [h]; exact hbf))).trans e
    · exact hR v2 h2 tk2 (.inr ⟨hn, hP2⟩) fun b o hb1 hb2 e => kp2 b o hb1 hb2 ((Heap.get?_update_other _ _ (Ne.symm hb2)).trans (kp b o hb1 e))
  · have e0 : n = 0 := by omega
    refine wpAny_bind (wpAny_tryCatch (W.done s _ _ (e0 ▸ hst) fun h1 tk kp => ?_))
    show wpAny _ Ar.in1 (_ >>= _) _ _ _
    refine wpAny_bind (wpAny_rule (wpAny_pure ?_))
    exact hR d h1 tk (.inl ⟨e0, rfl⟩) fun b o hb1 _ e => kp b o hb1 e
end
section
variable {pg : Program} {wo : World} {Ar : Around} {EE : Value → Shared → Prop} {s : Shared}
theorem args_maxD (a d : Value) : argsOk "max" ⟨[a], [(Str.ofString "default", d)]⟩ := by unfold argsOk; kernel_rfl
theorem best_ge {val : Nat → Int} : ∀ k j, j ≤ k → val j ≤ val (argBest (fun i j => decide (val i > val j)) k)
  | 0, j, h => by
    have e : j = 0 := by omega
    rw [e]
    exact Int.le_refl _
  | k + 1, j, h => by
    unfold argBest
    have ih := best_ge (val := val) k
    by_cases c : val (k + 1) > val (argBest (fun i j => decide (val i > val j)) k)
    · rw [if_pos (decide_eq_true c)]
      by_cases e : j = k + 1
      · rw [e]; exact Int.le_refl _
      · have := ih j (by omega)
        omega
    · rw [if_neg (by simpa using c)]
      by_cases e : j = k + 1
      · rw [e]; omega
      · exact ih j (by omega)
theorem best_le {bt : Nat → Nat → Bool} : ∀ k, argBest bt k ≤ k
  | 0 => Nat.le_refl _
  | k + 1 => by
    unfold argBest
    have := best_le (bt := bt) k
    split <;> omega
theorem call_treeK {id : String} {bi : Builtin} {as : List Value} {kw : List (Str × Value)} {Q : Value → Shared → Prop} (hk : builtinKind id = none) (hp : plainId id = true) (hb : entryFor table id = some bi) (ha : argsOk id ⟨as, kw⟩)
    (hc : wpAny (model pg wo) Ar.in1 (bi ⟨as, kw⟩) (fun fin s1 => match fin with | .done f => (match (Except.ok f : Result) with | .ok (.ret v) => Q v s1 | .ok _ => False | .error e => EE e s1) | .again c => c.quiet = true ∧ codeAny (model pg wo) Ar c (fun r s1 => match r with | .ok (.ret v) => Q v s1 | .ok _ => False | .error e => EE e s1) s1) EE s) :
    wpAny (model pg wo) Ar (call (.builtin id) as kw) Q EE s := by
  refine wpAny_call (codeAny_call_builtin hp hb ?_)
  simp only [checkBuiltinCall, hk]
  cases es : Manifest.signature? id with
  | none => exact wpAny_pure hc
  | some sg =>
    have ha1 : Bind.checkArgs id sg ⟨as, kw⟩ = pure () := by simpa only [argsOk, es] using ha
    simp only [ha1]
    exact wpAny_pure hc
theorem call_maxD {l : Addr} {vs : List Value} {val : Nat → Int} {d : Value} {Q : Value → Shared → Prop} (hh : Ar.handled = none) (hl : s.heap.IsList l vs.toArray) (hv : ∀ (i : Nat) (v : Value), vs[i]? = some v → ∃ t, v = .int (val i) t)
    (hQ : ∀ v h' tk, (vs.length = 0 ∧ v = d) ∨ (∃ i t, i < vs.length ∧ v = Value.int (val i) t ∧ ∀ j, j < vs.length → val j ≤ val i) → (∀ b o, s.heap.get? b = some o → h'.get? b = some o) → Q v { s with heap := h', toks := tk }) :
    wpAny (model pg wo) Ar (call (.builtin "max") [.ref l] [(Str.ofString "default", d)]) Q EE s := by
  have hnm : (toString "max" ++ toString ".loop" : String) = "max.loop" := by decide
  refine call_treeK F.kind_max F.plain_max F.entry_max (args_maxD _ _) ?_
  show wpAny _ Ar.in1 (Builtin.Builtins.bindParams "max" ["key", "default"] 0 ⟨[], [(Str.ofString "default", d)]⟩ >>= _) _ _ s
  refine wpAny_bind (wpAny_of_eq (show Builtin.Builtins.bindParams "max" ["key", "default"] 0 ⟨[], [(Str.ofString "default", d)]⟩ = pure [none, some d] from rfl) ?_)
  refine wpAny_bind (wpAny_pure ?_)
  obtain ⟨ol, hol, _⟩ := id hl
  have hll : l < s.heap.objs.size := Heap.lt_size hol
  refine wpAny_bind (wpAny_pyIter_list hl ?_)
  refine wpAny_bind (wpAny_newList ?_ (Nat.zero_le _))
  rw [hnm]
  have hI : l ≠ s.heap.objs.size := Nat.ne_of_lt hll
  have W := Walks.list (prog := pg) (w := wo) (A := Ar.in1) hh s.heap.objs.size l hI vs.toArray
  have hsz : (s.heap.push { cls := .type "list_iterator", data := .fields #[.ref l, .int 0 0] }).objs.size = s.heap.objs.size + 1 := Heap.size_push ..
  have up : ∀ b o, s.heap.get? b = some o → ((s.heap.push { cls := .type "list_iterator", data := .fields #[.ref l, .int 0 0] }).push { cls := .type "list", data := .seq ([] : List Value).toArray }).get? b = some o := fun b o e => Heap.get?_push_of_some _ (Heap.get?_push_of_some _ e)
  refine wpAny_pure ⟨plainId_quiet F.plain_max_loop _, maxFirstK W _ (CmpOf.ints_gt val fun i v e => hv i v (by simpa using e)) _ ?_ ⟨⟨_, Heap.get?_push_of_some _ (Heap.get?_push_size _ rfl), rfl, rfl⟩, hl.at fun o e => up l o e⟩ (Heap.get?_push_size _ rfl) fun v h1 tk hv1 kp => hQ v h1 tk ?_ fun b o e => kp b o ?_ ?_ (up b o e)⟩
  · rw [hsz]
    simp only [List.mem_cons, List.not_mem_nil, or_false, not_or]
    exact ⟨Nat.succ_ne_self _, Nat.ne_of_gt (Nat.lt_succ_of_lt hll)⟩
  · rw [List.size_toArray] at hv1
    rcases hv1 with ⟨e, rfl⟩ | ⟨hn, e⟩
    · exact .inl ⟨e, rfl⟩
    · have e1 : vs[argBest (fun i j => decide (val i > val j)) (vs.length - 1)]? = some v := by simpa using e
      obtain ⟨t, rfl⟩ := hv _ v e1
      have hb := best_le (bt := fun i j => decide (val i > val j)) (vs.length - 1)
      exact .inr ⟨_, t, by omega, rfl, fun j hj => best_ge (val := val) (vs.length - 1) j (by omega)⟩
  · simp only [List.mem_cons, List.not_mem_nil, or_false]
    exact Nat.ne_of_lt (Heap.lt_size e)
  · rw [hsz]
    exact Nat.ne_of_lt (Nat.lt_succ_of_lt (Heap.lt_size e))
end
end L2

namespace L2
open PySem
/-! ### list(reversed(xs)) -/
theorem nolen_lri : typeLookup (.type "list_reverseiterator") "__len__" = pure none := by rw [typeLookup_type, builtinLookup_eq_fast]; kernel_rfl
theorem hint_lri : typeLookup (.type "list_reverseiterator") "__length_hint__" = pure (some (.builtin "list_reverseiterator.__length_hint__")) := by rw [typeLookup_type, builtinLookup_eq_fast]; kernel_rfl
section
variable {pg : Program} {wo : World} {Ar : Around} {RR : Result → Shared → Prop} {EE : Value → Shared → Prop} {s : Shared} {l I : Addr} {items : Array Value}
theorem extend_rev (hh : Ar.handled = none) (hne : l ≠ I) (hit : s.heap.IsRevIter I l ((items.size : Int) - 1)) (hl : s.heap.IsList l items) (hz : items.size ≤ sizeLine) (S : Addr) (res : Value) (c0 : Nat) (hS : s.heap.get? S = some { cls := .type "list", data := .seq #[] c0 }) (hSf : S ∉ [I, l])
    (hR : ∀ h' tk acc c', (∀ b o, b ≠ S → b ≠ I → s.heap.get? b = some o → h'.get? b = some o) → h'.get? S = some { cls := .type "list", dict := none, data := .seq acc c', slots := #[] } → ItemsOf (fun i v => items[items.size - 1 - i]? = some v) acc items.size → RR (.ok (.ret res)) { s with heap := h', toks := tk }) :
    wpAny (model pg wo) Ar.in1 (Builtin.List.listExtendWith (.ref S) (.ref I) res) (fun fin s' => match fin with | .done f => RR (.ok f) s' | .again c' => c'.quiet = true ∧ codeAny (model pg wo) Ar c' RR s') (fun e s' => RR (.error e) s') s := by
  have W := (Walks.listRev (prog := pg) (w := wo) (A := Ar.in1) hh I l hne items).toS
  have hSI : S ≠ I := fun e => hSf (by simp [e])
  have ty : s.TypeIs (.ref I) "list_reverseiterator" := hit.typeIs
  unfold Builtin.List.listExtendWith
  refine wpAny_bind (wpAny_typeOf ty ?_)
  have h1 : Builtin.List.listSameRef (.ref S) (.ref I) = false := by simp [Builtin.List.listSameRef, hSI]
  rw [if_neg (by rw [h1]; decide)]
  have st0 : 0 ≤ items.size ∧ s.heap.IsRevIter I l ((items.size : Int) - 1 - ((0 : Nat) : Int)) ∧ s.heap.IsList l items := ⟨Nat.zero_le _, by rw [show ((0 : Nat) : Int) = 0 from rfl, Int.sub_zero]; exact hit, hl⟩
  refine wpAny_bind (W.self 0 _ _ _ st0 ?_)
  refine wpAny_bind (wpAny_holding ?_)
  unfold Builtin.List.listLengthHint
  refine wpAny_bind (wpAny_specialOf ty nolen_lri ?_)
  show wpAny _ Ar.in1 (specialOf (Value.ref I) (Str.ofString "__length_hint__") >>= _) _ _ _
  refine wpAny_bind (wpAny_specialOf ty hint_lri ?_)
  (generalize hid : ("list_reverseiterator.__length_hint__" : String) = id0; (fail_if_success (clear hid id0)); wp_delta; rw [show splitId id0 = some ("list_reverseiterator", "__length_hint__") from by subst hid; decide +kernel]; subst hid)
  refine wpAny_bind (wpAny_isInstance (b := true) ty (by rw [isSubtype_type]; kernel_rfl) ?_)
  refine wpAny_pure ?_
  rw [if_neg (by decide)]
  refine wpAny_pure ⟨plainId_quiet F.plain_extend_loop _, codeAny_extend_loopS W hz _ hSf _ items.size 0 _ _ _ rfl (Nat.zero_le _) st0 hS (ItemsOf.nil _) fun s' acc' c' hm hS' hacc => ?_⟩
  rw [Moved.eq_with hm]
  refine hR s'.heap s'.toks acc' c' (fun b o hb hbI e => hm.heap b o (fun hmem => ?_) e) hS' hacc
  simp only [List.mem_cons, List.not_mem_nil, or_false] at hmem
  rcases hmem with e' | e'
  · exact hb e'
  · exact hbI e'
theorem call_list_rev {Q : Value → Shared → Prop} (hh : Ar.handled = none) (hne : l ≠ I) (hit : s.heap.IsRevIter I l ((items.size : Int) - 1)) (hl : s.heap.IsList l items) (hz : items.size ≤ sizeLine)
    (hQ : ∀ h' tk acc c', (∀ b o, b ≠ I → s.heap.get? b = some o → h'.get? b = some o) → h'.get? s.heap.objs.size = some { cls := .type "list", dict := none, data := .seq acc c', slots := #[] } → ItemsOf (fun i v => items[items.size - 1 - i]? = some v) acc items.size → Q (.ref s.heap.objs.size) { s with heap := h', toks := tk }) :
    wpAny (model pg wo) Ar (call (.type "list") [.ref I]) Q EE s := by
  refine callType_codes (Q₁ := fun obj s1 => obj = .ref s.heap.objs.size ∧ s1 = { s with heap := s.heap.push { cls := .type "list", data := .seq #[] } }) F.called_list (F.typeCall_list_1 _) F.entry_list_init (code_list_new _ ⟨rfl, rfl⟩) fun obj s1 h1 => ?_
  obtain ⟨rfl, rfl⟩ := h1
  obtain ⟨oI, hoI, rI⟩ := id hit
  obtain ⟨ol, hol, _⟩ := id hl
  have lI := Heap.lt_size hoI
  have ll := Heap.lt_size hol
  have hS : (s.heap.push { cls := .type "list", data := .seq #[] }).get? s.heap.objs.size = some { cls := .type "list", data := .seq #[] } := Heap.get?_push_size _ rfl
  refine ⟨⟨_, hS, rfl⟩, F.args_list_init_2 _ _, ?_⟩
  show wpAny _ _ (do let old ← Builtin.List.listItems (.ref s.heap.objs.size); Builtin.List.listUpdate (.ref s.heap.objs.size) (fun _ => #[]); letGo old.toList.reverse; Builtin.List.listExtendWith (.ref s.heap.objs.size) (.ref I) .none) _ _ _
  refine wpAny_bind ?_
  unfold Builtin.List.listItems
  refine wpAny_bind (wpAny_seqItems hS rfl (wpAny_pure ?_))
  show wpAny _ _ (updateSeq s.heap.objs.size (fun _ => #[]) >>= fun _ => letGo (#[] : Array Value).toList.reverse >>= fun _ => Builtin.List.listExtendWith (.ref s.heap.objs.size) (.ref I) .none) _ _ _
  refine wpAny_bind (wpAny_updateSeq hS rfl ?_)
  have hS2 := Heap.get?_update_self (Obj.mapSeq (fun _ => (#[] : Array Value))) hS rfl
  have oth : ∀ b o, b ≠ s.heap.objs.size → (s.heap.push { cls := .type "list", data := .seq #[] }).get? b = some o → ((s.heap.push { cls := .type "list", data := .seq #[] }).update s.heap.objs.size (Obj.mapSeq (fun _ => (#[] : Array Value)))).get? b = some o := fun b o hb e => (Heap.get?_update_other _ _ (Ne.symm hb)).trans e
  have old : ∀ b o, s.heap.get? b = some o → ((s.heap.push { cls := .type "list", data := .seq #[] }).update s.heap.objs.size (Obj.mapSeq (fun _ => (#[] : Array Value)))).get? b = some o := fun b o e => oth b o (Nat.ne_of_lt (Heap.lt_size e)) (Heap.get?_push_of_some _ e)
  refine wpAny_bind (wpAny_letGo ?_)
  refine extend_rev (Ar := Ar.in1) hh hne (hit.at fun o e => old I o e) (hl.at fun o e => old l o e) hz s.heap.objs.size .none _ hS2 ?_ fun h' tk acc c' hk hS' hacc => ?_
  · simp only [List.mem_cons, List.not_mem_nil, or_false, not_or]
    exact ⟨Nat.ne_of_gt lI, Nat.ne_of_gt ll⟩
  · exact ⟨rfl, hQ h' tk acc c' (fun b o hb e => hk b o (Nat.ne_of_lt (Heap.lt_size e)) hb (old b o e)) hS' hacc⟩
end
end L2

namespace L2
open PySem PySem.Spec PyProof.Rows
section
variable {X : Cx} {e d : Expr} {te td : TE} {p p2 pos pos2 kp : Pos}
def tMaxD (K : PySem.W.Frag) (te td : TE) : TE := fun σ H Q => te σ H fun x H1 => td σ H1 fun dv H2 => ∃ a ns, x = .ref a ∧ SqL K H2 a (ns.map V.int) ∧ ((ns = [] ∧ Q dv H2) ∨ (ns ≠ [] ∧ ∀ m, m ∈ ns → (∀ y ∈ ns, y ≤ m) → Q (.int m) H2))
theorem ints_val {ns : List Int} {us : List Value} (r : Vals (ns.map V.int) us) (i : Nat) (v : Value) (h : us[i]? = some v) : ∃ t, v = .int (ns.getD i 0) t := by
  have hl := r.length
  rw [List.length_map] at hl
  have hi : i < ns.length := by rw [hl]; exact (List.getElem?_eq_some_iff.mp h).1
  obtain ⟨u, hu, ru⟩ := r.get (i := i) (x := V.int ns[i]) (by rw [List.getElem?_map, List.getElem?_eq_getElem hi]; rfl)
  rw [h] at hu
  cases hu
  obtain ⟨t, e⟩ := ru
  exact ⟨t, by rw [e, List.getD_eq_getElem?_getD, List.getElem?_eq_getElem hi]; rfl⟩
/-- max(e, default = d) -/
theorem pe_maxD (hc : X.calm = true) (hg : Gl X "max") (hm : X.mg "max" = none) (he : PE X e te) (hd : PE X d td) (hs : starEach [e] X.env = [(false, eval e X.env)] := by rfl) : PE X (.Call (.Name "max" p) [e] [⟨some "default", d, kp⟩] pos) (tMaxD X.K te td) := by
  intro pins s σ H Q I h
  refine wpAny_Call_Name_kw (ld_blt I hg hm boot_max (callWith_kw ?_ (by rw [hs]; rfl) (by rw [hs]; rfl)))
  rw [hs]
  show wpAny _ _ (spliced ((false, eval e X.env) :: backTo pos [])) _ _ s
  refine Calls.spliced_cons (thn (he pins s σ H _ I h) fun u s1 ⟨x, H1, I1, rx, q1⟩ => Calls.spliced_nil ?_)
  have q1' : tCons td tNil σ H1 (fun zs H2 => match zs with | [dv] => (∃ a ns, x = .ref a ∧ SqL X.K H2 a (ns.map V.int) ∧ ((ns = [] ∧ Q dv H2) ∨ (ns ≠ [] ∧ ∀ m, m ∈ ns → (∀ y ∈ ns, y ≤ m) → Q (.int m) H2))) | _ => False) := q1
  refine thn (pk_cons (nm := some "default") (kpos := kp) hd pk_nil pos pins s1 σ H1 _ I1 q1') fun ws s2 ⟨zs, H2, I2, rz, q2⟩ => ?_
  match zs, ws, rz, q2 with
  | [dv], [dw], rz, ⟨a, ns, e', hq, q3⟩ =>
    subst e'
    cases rx
    obtain ⟨_, e2, rd⟩ := vals1 rz
    cases e2
    show wpAny _ _ (call (.builtin "max") [.ref a] [(Str.ofString "default", dw)]) _ _ s2
    obtain ⟨its, r, pl, hz⟩ := I2.list hq
    have hlen := r.length
    rw [List.length_map] at hlen
    refine call_maxD (val := fun i => ns.getD i 0) (I2.ok.hd hc) pl.isList (ints_val r) fun v h' tk hv kp' => ?_
    rcases hv with ⟨e0, rfl⟩ | ⟨i, t, hi, rfl, hall⟩
    · have en : ns = [] := List.length_eq_zero_iff.mp (by omega)
      rcases q3 with ⟨_, q⟩ | ⟨ne, _⟩
      · exact ⟨dv, H2, I2.kept kp', rd, q⟩
      · exact absurd en ne
    · rcases q3 with ⟨en, _⟩ | ⟨_, q⟩
      · rw [en] at hlen
        simp at hlen
        omega
      · have hin : i < ns.length := by omega
        refine ⟨.int (ns.getD i 0), H2, I2.kept kp', ⟨t, rfl⟩, q _ ?_ fun y hy => ?_⟩
        · rw [List.getD_eq_getElem?_getD, List.getElem?_eq_getElem hin]
          exact List.getElem_mem hin
        · obtain ⟨j, hj⟩ := List.mem_iff_getElem?.mp hy
          have z := hall j (by rw [← hlen]; exact (List.getElem?_eq_some_iff.mp hj).1)
          rw [List.getD_eq_getElem?_getD (i := j), hj] at z
          exact z
  | [], _, _, q2 => exact q2.elim
  | _ :: _ :: _, _, _, q2 => exact q2.elim
  | [_], [], rz, _ => cases rz
  | [_], _ :: _ :: _, rz, _ =>
    cases rz with
    | cons _ r => cases r
def tListRev (K : PySem.W.Frag) (te : TE) : TE := fun σ H Q => te σ H fun x H1 => ∃ a xs, x = .ref a ∧ SqL K H1 a xs ∧ ∀ l, H1 l = none → Q (.ref l) (upd H1 l (.lst xs.reverse))
/-- list(reversed(e)) -/
theorem pe_listRev (hc : X.calm = true) (hg : Gl X "list") (hm : X.mg "list" = none) (hg2 : Gl X "reversed") (hm2 : X.mg "reversed" = none) (he : PE X e te)
    (hs : starEach [.Call (.Name "reversed" p2) [e] [] pos2] X.env = [(false, eval (.Call (.Name "reversed" p2) [e] [] pos2) X.env)] := by rfl) (hs2 : starEach [e] X.env = [(false, eval e X.env)] := by rfl) :
    PE X (.Call (.Name "list" p) [.Call (.Name "reversed" p2) [e] [] pos2] [] pos) (tListRev X.K te) := by
  intro pins s σ H Q I h
  refine Call_ (ld_blt I hg hm boot_list (PyProof.Rows.callWith_type1 ?_ hs rfl))
  rw [hs]
  show wpAny _ _ (spliced ((false, eval (.Call (.Name "reversed" p2) [e] [] pos2) X.env) :: backTo pos [])) _ _ s
  refine Calls.spliced_cons (Call_ (ld_blt I hg2 hm2 boot_reversed (PyProof.Rows.callWith_type1 ?_ hs2 rfl)))
  rw [hs2]
  show wpAny _ _ (spliced ((false, eval e X.env) :: backTo pos2 [])) _ _ s
  refine Calls.spliced_cons (thn (he pins s σ H _ I h) fun u s1 ⟨x, H1, I1, rx, a, xs, e1, hq, q⟩ => Calls.spliced_nil ?_)
  subst e1
  cases rx
  obtain ⟨its, r, pl, hz⟩ := I1.list hq
  have hlen := r.length
  refine call_reversed_list pl.isList (Calls.spliced_nil ?_)
  obtain ⟨o, ho, _⟩ := pl.isList
  have al : a < s1.heap.objs.size := Heap.lt_size ho
  have up : ∀ b o, s1.heap.get? b = some o → (s1.heap.push (revObj a ((its.toArray.size : Int) - 1))).get? b = some o := fun b o e => Heap.get?_push_of_some _ e
  refine call_list_rev (s := { s1 with heap := s1.heap.push (revObj a ((its.toArray.size : Int) - 1)) }) (items := its.toArray) (I1.ok.hd hc) (Nat.ne_of_lt al) ⟨_, Heap.get?_push_size _ rfl, rfl, rfl⟩ (pl.isList.at fun o e => up a o e) (by rw [List.size_toArray, ← hlen]; exact hz) fun h' tk acc c' kp hS hacc => ?_
  have hsz : (s1.heap.push (revObj a ((its.toArray.size : Int) - 1))).objs.size = s1.heap.objs.size + 1 := Heap.size_push ..
  have kp' : ∀ b o, s1.heap.get? b = some o → h'.get? b = some o := fun b o e => kp b o (Nat.ne_of_lt (Heap.lt_size e)) (up b o e)
  have le : s1.heap.objs.size ≤ s1.heap.objs.size + 1 := Nat.le_succ _
  show EP X pins σ Q (.ref (s1.heap.push (revObj a ((its.toArray.size : Int) - 1))).objs.size) _
  rw [show (Shared.heap { s1 with heap := s1.heap.push (revObj a ((its.toArray.size : Int) - 1)) }).objs.size = s1.heap.objs.size + 1 from hsz] at hS
  rw [hsz]
  have eacc : acc = its.reverse.toArray := by
    refine Array.ext (by rw [hacc.1, List.size_toArray, List.size_toArray, List.length_reverse]) fun i h1 h2 => ?_
    have z := hacc.2 i acc[i] (Array.getElem?_eq_getElem h1)
    rw [hacc.1] at h1
    rw [List.size_toArray] at z h1
    have z2 : its[its.length - 1 - i]? = some acc[i] := by simpa using z
    have z3 : its.reverse[i]? = some acc[i] := by rw [List.getElem?_reverse h1]; exact z2
    rw [List.getElem?_eq_getElem (by rw [List.length_reverse]; exact h1)] at z3
    simpa using (Option.some.inj z3).symm
  refine ⟨.ref (s1.heap.objs.size + 1), _, I1.laid (t' := tk) kp' le (show ObjOk X.prog X.w _ h' _ (.lst xs.reverse) from ⟨by rw [List.length_reverse]; exact hz, its.reverse, c', r.reverse, ?_⟩), rfl, q _ (I1.hok.fresh le)⟩
  rw [← eacc]
  exact hS
end
end L2

namespace L2
open PySem Builtin Builtin.Str
/-! ### sep.join(reversed(xs)) -/
theorem gives_join (x : Str) (ls : List (Str × Tok)) (hok : tooLong ((ls.map (·.1)).toArray.foldl (· + ·.length + x.length) 0) = false) : Gives (joinTail x (strValues ls)) (joinMade x ls) := by
  have g0 := gives_joinTail x ls hok
  cases ls with
  | nil => exact g0
  | cons p r =>
    cases r with
    | nil => exact g0
    | cons q r' => exact g0
section
variable {pg : Program} {wo : World} {Ar : Around} {EE : Value → Shared → Prop} {s : Shared} {l I : Addr} {items : Array Value}
theorem iadd_rev {RR : Result → Shared → Prop} (hh : Ar.handled = none) (hne : l ≠ I) (hit : s.heap.IsRevIter I l ((items.size : Int) - 1)) (hl : s.heap.IsList l items) (hz : items.size ≤ sizeLine) (S : Addr) (c0 : Nat) (hS : s.heap.get? S = some { cls := .type "list", data := .seq #[] c0 }) (hSf : S ∉ [I, l])
    (hR : ∀ h' tk acc c', (∀ b o, b ≠ S → b ≠ I → s.heap.get? b = some o → h'.get? b = some o) → h'.get? S = some { cls := .type "list", dict := none, data := .seq acc c', slots := #[] } → ItemsOf (fun i v => items[items.size - 1 - i]? = some v) acc items.size → RR (.ok (.ret (.ref S))) { s with heap := h', toks := tk }) :
    codeAny (model pg wo) Ar (.builtin "list.__iadd__" ⟨[.ref S, .ref I], []⟩) RR s := by
  refine codeAny_builtin F.entry_list_iadd ?_
  rw [Around.under_plainId F.plain_list_iadd _]
  show wpAny _ Ar.in1 (Builtin.List.listExtendWith (.ref S) (.ref I) (.ref S)) _ _ _
  exact extend_rev (Ar := Ar) hh hne hit hl hz S (.ref S) _ hS hSf hR
theorem collect_rev {Q : List Value → Shared → Prop} (hh : Ar.handled = none) (hne : l ≠ I) (hit : s.heap.IsRevIter I l ((items.size : Int) - 1)) (hl : s.heap.IsList l items) (hz : items.size ≤ sizeLine)
    (hQ : ∀ h' tk acc, (∀ b o, b ≠ I → s.heap.get? b = some o → h'.get? b = some o) → ItemsOf (fun i v => items[items.size - 1 - i]? = some v) acc items.size → Q acc.toList { s with heap := h', toks := tk }) :
    wpAny (model pg wo) Ar (collect (.ref I)) Q EE s := by
  obtain ⟨oI, hoI, rI⟩ := id hit
  obtain ⟨ol, hol, _⟩ := id hl
  have lI := Heap.lt_size hoI
  have ll := Heap.lt_size hol
  unfold collect
  refine wpAny_bind (wpAny_runValue (codeAny_builtin F.entry_proto_collect ?_))
  rw [Around.under_plainId F.plain_proto_collect _]
  show wpAny _ Ar.in1 (newList [] >>= fun l => again (.builtin "list.__iadd__" ⟨[l, .ref I], []⟩)) _ _ s
  refine wpAny_bind (wpAny_newObj_type ?_)
  have old : ∀ b o, s.heap.get? b = some o → (s.heap.push { cls := .type "list", data := .seq ([] : List Value).toArray }).get? b = some o := fun b o e => Heap.get?_push_of_some _ e
  have hS1 : (s.heap.push { cls := .type "list", data := .seq ([] : List Value).toArray }).get? s.heap.objs.size = some { cls := .type "list", data := .seq ([] : List Value).toArray } := Heap.get?_push_size _ rfl
  refine wpAny_pure ⟨plainId_quiet F.plain_list_iadd _, iadd_rev (s := { s with heap := s.heap.push { cls := .type "list", data := .seq ([] : List Value).toArray } }) hh hne (hit.at fun o e => old I o e) (hl.at fun o e => old l o e) hz s.heap.objs.size _ hS1 ?_ fun h' tk acc c' hk hS' hacc => ?_⟩
  · simp only [List.mem_cons, List.not_mem_nil, or_false, not_or]
    exact ⟨Nat.ne_of_gt lI, Nat.ne_of_gt ll⟩
  · show wpAny _ Ar (load s.heap.objs.size >>= _) _ _ _
    refine wpAny_bind (wpAny_load (s := { s with heap := h', toks := tk }) hS' ?_)
    exact wpAny_pure (hQ h' tk acc (fun b o hb e => hk b o (Nat.ne_of_lt (Heap.lt_size e)) hb (old b o e)) hacc)
theorem call_join_rev {Q : Value → Shared → Prop} {x : Str} {t : Tok} {ls : List (Str × Tok)} (hh : Ar.handled = none) (hne : l ≠ I) (hit : s.heap.IsRevIter I l (((strValues ls).toArray.size : Int) - 1)) (hl : s.heap.IsList l (strValues ls).toArray) (hz : (strValues ls).toArray.size ≤ sizeLine)
    (hok : JoinOk x (ls.map (·.1)).reverse = true) (hq : ∀ t' h' k, (∀ b o, b ≠ I → s.heap.get? b = some o → h'.get? b = some o) → Q (.str (Txt.join x (ls.map (·.1)).reverse) t') { s with heap := h', toks := k }) :
    wpAny (model pg wo) Ar (call (.builtin "str.join") [.str x t, .ref I]) Q EE s := by
  refine wpAny_call (codeAny_call_builtin F.slot_str_join.plain F.entry_str_join (F.slot_str_join.check _ _ _ _ _ _ _ _ (typeIs_str _ _ _) (F.args_str_join_2 _ _) ?_))
  rw [join_tree_other]
  refine wpAny_bind (wpAny_typeOf hit.typeIs ?_)
  show wpAny _ Ar.in1 ((pyIter (.ref I)).tryCatch _ >>= fun it => collect it >>= fun items => joinTail x items) _ _ s
  refine wpAny_bind (wpAny_tryCatch (wpAny_pyIter_revIter hit ?_))
  refine wpAny_bind (collect_rev (Ar := Ar.in1) hh hne hit hl hz fun h' tk acc kp hacc => ?_)
  have eacc : acc.toList = strValues ls.reverse := by
    have e1 : acc = (strValues ls).reverse.toArray := by
      refine Array.ext (by rw [hacc.1, List.size_toArray, List.size_toArray, List.length_reverse]) fun i h1 h2 => ?_
      have z := hacc.2 i acc[i] (Array.getElem?_eq_getElem h1)
      rw [hacc.1] at h1
      rw [List.size_toArray] at z h1
      have z2 : (strValues ls)[(strValues ls).length - 1 - i]? = some acc[i] := by simpa using z
      have z3 : (strValues ls).reverse[i]? = some acc[i] := by rw [List.getElem?_reverse h1]; exact z2
      rw [List.getElem?_eq_getElem (by rw [List.length_reverse]; exact h1)] at z3
      simpa using (Option.some.inj z3).symm
    rw [e1, List.toList_toArray]
    unfold strValues
    rw [List.map_reverse]
  rw [eacc]
  have hrev : (ls.reverse).map (·.1) = (ls.map (·.1)).reverse := by rw [List.map_reverse]
  rw [← hrev] at hok hq
  unfold JoinOk at hok
  rw [Bool.not_eq_true'] at hok
  have g := gives_join x ls.reverse hok
  exact g pg wo Ar (wants Q EE) { s with heap := h', toks := tk } (post_join ls.reverse ⟨joinFit_length hok, fun t' k => hq t' h' k kp⟩)
end
end L2

namespace L2
open PySem PySem.Spec PyProof.Rows
theorem strs_of : ∀ {xs : List Str} {us : List Value}, Vals (xs.map V.str) us → ∃ l : List (Str × Tok), us = strValues l ∧ l.map (·.1) = xs
  | [], us, r => by
    have e : us = [] := r.zero
    exact ⟨[], e, rfl⟩
  | x :: xs, us, r => by
    cases r with
    | cons r1 r2 =>
      obtain ⟨t, rfl⟩ := r1
      obtain ⟨l, e, h⟩ := strs_of r2
      refine ⟨(x, t) :: l, ?_, by rw [List.map_cons, h]⟩
      rw [e]
      rfl
theorem vals_strs : ∀ (l : List (Str × Tok)), Vals ((l.map (·.1)).map V.str) (strValues l)
  | [] => .nil
  | (x, t) :: l => .cons ⟨t, rfl⟩ (vals_strs l)
section
variable {X : Cx} {e o : Expr} {te to : TE} {p p2 pos pos2 apos cpos : Pos}
def rJoin (K : PySem.W.Frag) : V → List V → Hp → VK → Prop := fun x vs H Q => ∃ (sep : Str) (a : Addr) (texts : List Str), x = .str sep ∧ vs = [.ref a] ∧ SqL K H a (texts.map V.str) ∧ JoinOk sep texts = true ∧ Q (.str (Txt.join sep texts)) H
/-- sep.join(xs) -/
theorem mt_join : MtR X "str.join" (rJoin X.K) := by
  intro pins s σ H x xs v us Q I rx rs h
  obtain ⟨sep, a, texts, rfl, rfl, hq, hok, q⟩ := h
  obtain ⟨t, rfl⟩ := rx
  obtain ⟨u, rfl, ru⟩ := vals1 rs
  cases ru
  obtain ⟨its, r, pl, hz⟩ := I.list hq
  obtain ⟨l, rfl, hl⟩ := strs_of r
  exact SC.join pl.isList hl hok fun t' k => ⟨.str (Txt.join sep texts), H, I.tok k, ⟨t', rfl⟩, q⟩
end
section
open Builtin Builtin.Str
variable {pg : Program} {wo : World} {Ar : Around} {EE : Value → Shared → Prop} {s : Shared} {a y : Str} {t u : Tok} {Q : Value → Shared → Prop}
theorem split_own (hy : (y.length == 0) = false) (hz : a.length + 2 ≤ sizeLine)
    (hQ : ∀ ls k, ls.map (·.1) = Txt.split a y → ls.length ≤ sizeLine → Q (.ref s.heap.objs.size) { s with heap := s.heap.push { cls := .type "list", data := .seq (strValues ls).toArray }, toks := k }) :
    wpAny (model pg wo) Ar (call (.builtin "str.split") [.str a t, .str y u]) Q EE s := by
  have hn : (partsBetween a (occurrences a y 0 a.length (a.length + 1)) y.length).length ≤ sizeLine := by
    have e1 := StrLaws.occ_length_le a y 0 a.length (a.length + 1)
    rw [length_partsBetween]
    omega
  cases c1 : (decide (a.length < y.length) || decide (Builtin.Str.strKind a < Builtin.Str.strKind y)) with
  | true => exact call_meets F.slot_str_split (typeIs_str _ _ _) F.entry_str_split (F.args_str_split_2 _ _) (meets_str_split_cannot_occur a y t u c1) (hQ [(a, t)] s.toks (if_pos c1).symm (by show 1 ≤ sizeLine; decide))
  | false =>
    cases c2 : (occurrences a y 0 a.length (a.length + 1)).isEmpty with
    | true => exact call_meets F.slot_str_split (typeIs_str _ _ _) F.entry_str_split (F.args_str_split_2 _ _) (meets_str_split_not_found a y t u c1 hy c2) (hQ [(a, t)] s.toks ((if_neg (ne_true_of_eq_false c1)).trans (if_pos c2)).symm (by show 1 ≤ sizeLine; decide))
    | false =>
      refine call_meets F.slot_str_split (typeIs_str _ _ _) F.entry_str_split (F.args_str_split_2 _ _) (meets_str_split_sep a y t u c1 hy c2 (by omega) hn) ?_
      show wants Q EE _ { s with toks := _, heap := s.heap.push { cls := .type "list", data := .seq (strsFrom s.toks (partsBetween a (occurrences a y 0 a.length (a.length + 1)) y.length)).toArray } }
      rw [strsFrom_eq]
      have et := numbered_texts s.toks (partsBetween a (occurrences a y 0 a.length (a.length + 1)) y.length)
      refine hQ (numbered s.toks _) _ (et.trans ((if_neg (ne_true_of_eq_false c1)).trans (if_neg (ne_true_of_eq_false c2))).symm) ?_
      have el := congrArg List.length et
      rw [List.length_map] at el
      omega
end
section
variable {X : Cx} {e o : Expr} {te to : TE} {p p2 pos pos2 apos cpos : Pos}
def rSplit : V → List V → Hp → VK → Prop := fun x vs H Q => ∃ a y, x = .str a ∧ vs = [.str y] ∧ (y.length == 0) = false ∧ a.length + 2 ≤ sizeLine ∧ ∀ l, H l = none → Q (.ref l) (upd H l (.lst ((Txt.split a y).map V.str)))
/-- x.split(y) -/
theorem mt_split : MtR X "str.split" rSplit := by
  intro pins s σ H x xs v us Q I rx rs h
  obtain ⟨a, y, rfl, rfl, hy, h1, q⟩ := h
  obtain ⟨t, rfl⟩ := rx
  obtain ⟨u, rfl, ru⟩ := vals1 rs
  obtain ⟨t2, rfl⟩ := ru
  refine split_own hy h1 fun ls k hl hz => ?_
  refine ⟨.ref s.heap.objs.size, _, I.laid (t' := k) (fun b u e => Heap.get?_push_of_some _ e) (Nat.le_refl _) (show ObjOk X.prog X.w _ _ _ (.lst ((Txt.split a y).map V.str)) from ⟨?_, strValues ls, 0, ?_, Heap.get?_push_size _ rfl⟩), rfl, q _ (I.hok.fresh (Nat.le_refl _))⟩
  · rw [List.length_map, ← hl, List.length_map]
    exact hz
  · rw [← hl]
    exact vals_strs ls
def tJoinRev (K : PySem.W.Frag) (to te : TE) : TE := fun σ H Q => to σ H fun x H0 => ∃ sep, x = .str sep ∧ te σ H0 fun y H1 => ∃ (a : Addr) (texts : List Str), y = .ref a ∧ SqL K H1 a (texts.map V.str) ∧ JoinOk sep texts.reverse = true ∧ Q (.str (Txt.join sep texts.reverse)) H1
/-- sep.join(reversed(e)) -/
theorem pe_joinRev (hc : X.calm = true) (hg2 : Gl X "reversed") (hm2 : X.mg "reversed" = none) (ho : PE X o to) (he : PE X e te)
    (hbase : attributeBase o "join" X.env (eval o X.env) = eval o X.env := by rfl)
    (hfew : ((backTo cpos (starEach [.Call (.Name "reversed" p2) [e] [] pos2] X.env)).all (fun x => !x.1) && (backToKw cpos (keywordEach [] X.env)).all (fun x => x.1.isSome)
      && decide (([.Call (.Name "reversed" p2) [e] [] pos2] : List Expr).length + ([] : List Keyword).length + (if ([] : List Keyword).isEmpty then 0 else 1) < 30)) = true := by rfl)
    (hline : (apos.endLine == cpos.line) = true := by rfl)
    (hs : starEach [.Call (.Name "reversed" p2) [e] [] pos2] X.env = [(false, eval (.Call (.Name "reversed" p2) [e] [] pos2) X.env)] := by rfl) (hs2 : starEach [e] X.env = [(false, eval e X.env)] := by rfl) :
    PE X (.Call (.Attribute o "join" apos) [.Call (.Name "reversed" p2) [e] [] pos2] [] cpos) (tJoinRev X.K to te) := by
  intro pins s σ H Q I h
  refine wpAny_Call_method_late hbase hfew hline rfl (thn (ho pins s σ H _ I h) fun v s1 ⟨x, H0, I0, r0, sep, ex, q0⟩ => ?_)
  subst ex
  obtain ⟨t, rfl⟩ := r0
  refine ⟨"str", "str.join", PySem.F.plainAttrs_str, PySem.F.slot_str_join, PySem.F.type_str_join, typeIs_str _ _ _, (fun a z => by cases z), ?_⟩
  rw [hs]
  refine Calls.callWith_builtin rfl (Calls.evalArgs_plain ?_)
  show wpAny _ _ (spliced ((false, eval (.Call (.Name "reversed" p2) [e] [] pos2) X.env) :: backTo cpos [])) _ _ s1
  refine Calls.spliced_cons (Call_ (ld_blt I0 hg2 hm2 boot_reversed (PyProof.Rows.callWith_type1 ?_ hs2 rfl)))
  rw [hs2]
  show wpAny _ _ (spliced ((false, eval e X.env) :: backTo pos2 [])) _ _ s1
  refine Calls.spliced_cons (thn (he pins s1 σ H0 _ I0 q0) fun u s2 ⟨y, H1, I1, ry, a, texts, e1, hq, hok, q⟩ => Calls.spliced_nil ?_)
  subst e1
  cases ry
  obtain ⟨its, r, pl, hz⟩ := I1.list hq
  obtain ⟨l, rfl, hl⟩ := strs_of r
  have hlen := r.length
  refine call_reversed_list pl.isList (Calls.spliced_nil ?_)
  obtain ⟨ob, hob, _⟩ := pl.isList
  have al : a < s2.heap.objs.size := Heap.lt_size hob
  have up : ∀ b o, s2.heap.get? b = some o → (s2.heap.push (revObj a (((strValues l).toArray.size : Int) - 1))).get? b = some o := fun b o e => Heap.get?_push_of_some _ e
  subst hl
  refine call_join_rev (s := { s2 with heap := s2.heap.push (revObj a (((strValues l).toArray.size : Int) - 1)) }) (I1.ok.hd hc) (Nat.ne_of_lt al) ⟨_, Heap.get?_push_size _ rfl, rfl, rfl⟩ (pl.isList.at fun o e => up a o e) (by rw [List.size_toArray, ← hlen]; exact hz) hok fun t' h' k kp => ?_
  exact ⟨.str _, H1, I1.kept (t' := k) fun b o e => kp b o (Nat.ne_of_lt (Heap.lt_size e)) (up b o e), ⟨t', rfl⟩, q⟩
end
/-! ### the signs of a text, in a for -/
def Itx (x : Str) : It := ⟨fun i _ => i < x.cps.size, fun i H v H' => H' = H ∧ ∃ c, x.cps[i]? = some c ∧ v = .str ⟨#[c]⟩, fun i _ => x.cps.size ≤ i⟩
theorem turn_str {P : Program} {w : World} {K : PySem.W.Frag} {tg : Expr} {n : String} (it : Addr) (x : Str) (t : Tok) (W : ∀ A : Around, A.handled = none → Walks P w A it [it] [it] x.cps.size (SignAt x) (fun i h => h.IsStrIter it n x t i))
    (hn : ["enumerate", "zip", "dict_itemiterator", "dict_reverseitemiterator", "odict_iterator", "itertools.zip_longest", "itertools.pairwise"].contains n = false)
    (hself : ∀ (A : Around) (i : Nat) (s : Shared) (Q : Value → Shared → Prop) (E : Value → Shared → Prop), s.heap.IsStrIter it n x t i → Q (.ref it) s → wpAny (model P w) A (pyIter (.ref it)) Q E s) : Turn P w K tg (Itx x) [it] it (fun i h => i ≤ x.cps.size ∧ h.IsStrIter it n x t i) where
  mem := by simp
  obj := fun i h st b hb => by
    have e : b = it := by simpa using hb
    subst e
    obtain ⟨_, o, e, c, d⟩ := st
    exact ⟨o, e, fun v z => by rw [d] at z; cases z⟩
  keep := fun i h h' st k => ⟨st.1, let ⟨o, e, r⟩ := st.2; ⟨o, k it (by simp) o e, r⟩⟩
  item := by
    intro X hP hw hK hc i pins s σ H E I hf st hg
    subst hP hw hK
    obtain ⟨f0, f1, f2, f3, f4, f5⟩ := hf it (by simp)
    refine (W X.A (I.ok.hd hc)).item i s _ _ hg st.2 fun v h' tk hv st' kk => ?_
    obtain ⟨c, u, ec, rfl⟩ := hv
    have I1 : Inv X pins σ H { s with heap := h', toks := tk } := I.turned (fun b o hb e => kk b o (by simpa using hb) e) f0 f1 f3 f4 f5
    obtain ⟨o, eo, oc, od⟩ := id st'
    exact ⟨_, rfl, go_of (s := { s with heap := h', toks := tk }) (n := n) eo oc od hn ⟨.str ⟨#[c]⟩, H, I1, ⟨u, rfl⟩, ⟨rfl, c, ec, rfl⟩, ⟨hg, st'⟩, fun b hb => (hf b hb).1⟩⟩
  done := by
    intro X hP hw hK hc i pins s σ H E I hf st hg
    subst hP hw hK
    obtain ⟨f0, f1, f2, f3, f4, f5⟩ := hf it (by simp)
    have e : i = x.cps.size := Nat.le_antisymm st.1 hg
    subst e
    exact (W X.A (I.ok.hd hc)).done s _ _ st.2 fun h' tk kk => ⟨rfl, I.turned (t' := tk) (fun b o hb e => kk b o (by simpa using hb) e) f0 f1 f3 f4 f5⟩
  self := fun A i s Q E st h => hself A i s Q E st.2 h
section
variable {X : Cx} {e : Expr} {te : TE} {tg : Expr}
def iStr (te : TE) : TI := fun σ H R => te σ H fun v H1 => ∃ x, v = .str x ∧ R (Itx x) H1
theorem pi_str (he : PE X e te) : PI X tg e (iStr te) := by
  intro pins s σ H R I h
  refine thn (he pins s σ H _ I h) fun v s1 ⟨y, H1, I1, ry, x, ey, q⟩ => ?_
  subst ey
  obtain ⟨t, rfl⟩ := ry
  have fp : ∀ b ∈ [s1.heap.objs.size], FpOk X pins H1 b := fun b hb => by
    have e : b = s1.heap.objs.size := by simpa using hb
    subst e
    exact I1.fpOk (Nat.le_refl _) (I1.hok.fresh (Nat.le_refl _))
  cases ha : x.cps.all (· < 128) with
  | false =>
    refine wpAny_pyIter_wide ha ?_
    exact ⟨s1.heap.objs.size, [s1.heap.objs.size], _, _, H1, rfl, I1.kept (t' := s1.toks) fun b o e => Heap.get?_push_of_some _ e, turn_str s1.heap.objs.size x t (fun A hA => Walks.strWide hA _ x t) (by decide) (fun A i s Q E st h => wpAny_pyIter_striter_wide st h), ⟨Nat.zero_le _, _, Heap.get?_push_size _ rfl, rfl, rfl⟩, fp, q⟩
  | true =>
    refine wpAny_pyIter_ascii ha ?_
    exact ⟨s1.heap.objs.size, [s1.heap.objs.size], _, _, H1, rfl, I1.kept (t' := s1.toks) fun b o e => Heap.get?_push_of_some _ e, turn_str s1.heap.objs.size x t (fun A hA => Walks.strAscii hA _ x t) (by decide) (fun A i s Q E st h => wpAny_pyIter_striter_ascii st h), ⟨Nat.zero_le _, _, Heap.get?_push_size _ rfl, rfl, rfl⟩, fp, q⟩
end
theorem for_str {x : Str} {g : TG} {tb : TS} {D : Ends} {σ : St} {H : Hp} (Pv : Nat → St → Hp → Prop) (h0 : Pv 0 σ H)
    (hs : ∀ i c σ H, x.cps[i]? = some c → Pv i σ H → g (.str ⟨#[c]⟩) σ H fun σ2 H2 => tb { D with nx := Pv (i + 1), ct := Pv (i + 1), bk := D.nx } σ2 H2) (hd : ∀ σ H, Pv x.cps.size σ H → D.nx σ H) :
    ∃ W : Nat → Nat → St → Hp → Prop, (∃ m, W 0 m σ H) ∧ ∀ i m σ H, W i m σ H →
      ((Itx x).stop i H ∧ D.nx σ H) ∨ ((Itx x).go i H ∧ ∃ N : St → Hp → Prop, (∀ σ' H', N σ' H' → ∃ m', m' < m ∧ W (i + 1) m' σ' H') ∧ ∀ v H', (Itx x).yld i H v H' → g v σ H' fun σ2 H2 => tb { D with nx := N, ct := N, bk := D.nx } σ2 H2) := by
  refine ⟨fun i m σ H => m = x.cps.size - i ∧ i ≤ x.cps.size ∧ Pv i σ H, ⟨x.cps.size, by simp, Nat.zero_le _, h0⟩, ?_⟩
  rintro i m σ H ⟨rfl, hi, p⟩
  by_cases hlt : i < x.cps.size
  · refine .inr ⟨hlt, Pv (i + 1), fun σ' H' p' => ⟨x.cps.size - (i + 1), by omega, rfl, hlt, p'⟩, fun v H' y => ?_⟩
    obtain ⟨e, c, ec, ev⟩ := y
    subst e ev
    exact hs i c σ _ ec p
  · have e : i = x.cps.size := by omega
    subst e
    exact .inl ⟨Nat.le_refl _, hd σ H p⟩
section
variable {X : Cx}
/-- int(a figure) -/
theorem call_intS : CallR X (.type "int") (fun xs H Q => ∃ d : Nat, xs = [.str ⟨#[48 + d]⟩] ∧ d < 10 ∧ Q (.int (d : Nat)) H) := by
  intro pins s σ H xs us Q I r h
  obtain ⟨d, rfl, hd, q⟩ := h
  obtain ⟨u, rfl, ru⟩ := vals1 r
  obtain ⟨t, rfl⟩ := ru
  have e : (⟨#[48 + d]⟩ : Str) = Str.ofString (toString ((d : Nat) : Int)) := by
    have z : ∀ d ∈ List.range 10, (⟨#[48 + d]⟩ : Str) = Str.ofString (toString ((d : Nat) : Int)) := by decide +kernel
    exact z d (List.mem_range.mpr hd)
  rw [e]
  exact PySem.W.KIN.call_num (by omega) (by omega) ⟨.int (d : Nat), H, I.tok _, ⟨_, rfl⟩, q⟩
theorem sl_listK {K : PySem.W.Frag} (hK : X.K = K) : SlR X (rSlL K) := hK ▸ sl_list
/-- try, where nothing is raised -/
theorem ps_tryQ {body : List Stmt} {h0 : ExceptHandler} {hs : List ExceptHandler} {pos : Pos} {tb : TS} (hx : X.xe = fun _ _ => False) (hb : PSs X body tb) : PS X (.Try body (h0 :: hs) [] [] pos) tb := by
  intro pins s σ H D I h
  have z := hb pins s σ H D I h
  rw [hx] at z
  refine wpAny_Try_except (wpAny_mono z (fun f s1 q => ?_) fun _ _ q => q.elim)
  cases f with
  | next => exact wpAny_execs_nil q
  | brk => exact q
  | cont => exact q
  | ret u => exact q
end
theorem digit_in {d : Nat} (h : d < 10) : (Builtin.Str.occurrences "0123456789" ⟨#[48 + d]⟩ 0 (("0123456789" : Str).length) 1).isEmpty = false := by
  have z : ∀ d ∈ List.range 10, (Builtin.Str.occurrences "0123456789" ⟨#[48 + d]⟩ 0 (("0123456789" : Str).length) 1).isEmpty = false := by decide +kernel
  exact z d (List.mem_range.mpr h)
theorem figure_at {d : Nat} (h : d < 10) : atI ("0123456789" : Str).cps.toList ((d : Nat) : Int) = some (48 + d) := by
  have z : ∀ d ∈ List.range 10, atI ("0123456789" : Str).cps.toList ((d : Nat) : Int) = some (48 + d) := by decide +kernel
  exact z d (List.mem_range.mpr h)
end L2

namespace PN
open PySem L2
/-! ### numbers by their figures -/
def decL (m : Nat) : List Nat := (Nat.toDigits 10 m).map Char.toNat
def figS (m : Nat) : Str := ⟨(decL m).toArray⟩
theorem str_ext {a b : Str} (h : a.cps.toList = b.cps.toList) : a = b := by
  cases a
  cases b
  congr 1
  exact Array.toList_inj.mp h
theorem figS_str (m : Nat) : Str.ofString (toString ((m : Nat) : Int)) = figS m := by
  refine str_ext ?_
  rw [PySem.W.KIN.signs_num]
  show _ = (decL m).toArray.toList
  rw [List.toList_toArray]
  rfl
theorem dig_code {d : Nat} (h : d < 10) : (Nat.digitChar d).toNat = 48 + d := by
  have z : ∀ d ∈ List.range 10, (Nat.digitChar d).toNat = 48 + d := by decide
  exact z d (List.mem_range.mpr h)
theorem decL_small {m : Nat} (h : m < 10) : decL m = [48 + m] := by
  unfold decL
  rw [Nat.toDigits_of_lt_base h, List.map_cons, dig_code h]
  rfl
theorem decL_big {m : Nat} (h : 10 ≤ m) : decL m = decL (m / 10) ++ [48 + m % 10] := by
  have hm : m % 10 < 10 := Nat.mod_lt m (by decide)
  have t : Nat.toDigits 10 (m / 10) ++ Nat.toDigits 10 (m % 10) = Nat.toDigits 10 (10 * (m / 10) + m % 10) := Nat.toDigits_append_toDigits (by decide) (by omega) hm
  rw [Nat.div_add_mod] at t
  unfold decL
  rw [← t, List.map_append, Nat.toDigits_of_lt_base hm, List.map_cons, dig_code hm]
  rfl
theorem decL_val (m : Nat) : (decL m).foldl (fun acc c => acc * 10 + (c - 48)) 0 = m := PySem.W.KIN.val_back m
theorem decL_fig (m : Nat) : ∀ c ∈ decL m, ∃ d, d < 10 ∧ c = 48 + d := by
  induction m using Nat.strongRecOn with
  | _ m ih =>
    intro c hc
    by_cases h : m < 10
    · rw [decL_small h, List.mem_singleton] at hc
      exact ⟨m, h, hc⟩
    · rw [decL_big (by omega)] at hc
      rcases List.mem_append.mp hc with z | z
      · exact ih (m / 10) (by omega) c z
      · exact ⟨m % 10, Nat.mod_lt m (by decide), List.mem_singleton.mp z⟩
theorem decL_length (m : Nat) : 1 ≤ (decL m).length ∧ (decL m).length ≤ m + 1 := by
  induction m using Nat.strongRecOn with
  | _ m ih =>
    by_cases h : m < 10
    · rw [decL_small h]
      exact ⟨Nat.le_refl _, by show 1 ≤ m + 1; omega⟩
    · rw [decL_big (by omega), List.length_append]
      have z := ih (m / 10) (by omega)
      show 1 ≤ _ + 1 ∧ _ + 1 ≤ m + 1
      omega
theorem decL_first (m : Nat) : m = 0 ∨ ∃ d r, 1 ≤ d ∧ d < 10 ∧ decL m = (48 + d) :: r := by
  induction m using Nat.strongRecOn with
  | _ m ih =>
    by_cases h : m < 10
    · by_cases h0 : m = 0
      · exact .inl h0
      · exact .inr ⟨m, [], by omega, h, decL_small h⟩
    · rcases ih (m / 10) (by omega) with z | ⟨d, r, h1, h2, h3⟩
      · omega
      · exact .inr ⟨d, r ++ [48 + m % 10], h1, h2, by rw [decL_big (by omega), h3]; rfl⟩
theorem figS_length (m : Nat) : (figS m).length = (decL m).length := by
  show (decL m).toArray.size = _
  rw [List.size_toArray]
theorem figS_cps (m : Nat) : (figS m).cps.toList = decL m := by
  show (decL m).toArray.toList = _
  rw [List.toList_toArray]
/-! ### joined and split at a sign -/
def JL (c : Nat) : List (List Nat) → List Nat
  | [] => []
  | [x] => x
  | x :: y :: r => x ++ c :: JL c (y :: r)
theorem join_cps (c : Nat) : ∀ ts : List Str, (Str.join ⟨#[c]⟩ ts).cps.toList = JL c (ts.map fun t => t.cps.toList)
  | [] => rfl
  | [x] => rfl
  | x :: y :: r => by
    have ih := join_cps c (y :: r)
    show ((x ++ (⟨#[c]⟩ : Str) ++ Str.join ⟨#[c]⟩ (y :: r)).cps).toList = x.cps.toList ++ c :: JL c ((y :: r).map fun t => t.cps.toList)
    rw [← ih, Str.cps_append, Str.cps_append, Array.toList_append, Array.toList_append]
    simp
theorem cut_same {c : Nat} : ∀ {a b u v : List Nat}, c ∉ a → c ∉ b → a ++ c :: u = b ++ c :: v → a = b ∧ u = v
  | [], [], _, _, _, _, h => ⟨rfl, (List.cons.inj h).2⟩
  | [], y :: b, _, _, _, hb, h => absurd (by rw [(List.cons.inj h).1]; exact List.mem_cons_self) hb
  | x :: a, [], _, _, ha, _, h => absurd (by rw [← (List.cons.inj h).1]; exact List.mem_cons_self) ha
  | x :: a, y :: b, _, _, ha, hb, h => by
    obtain ⟨e, h'⟩ := List.cons.inj h
    obtain ⟨e1, e2⟩ := cut_same (fun z => ha (List.mem_cons_of_mem _ z)) (fun z => hb (List.mem_cons_of_mem _ z)) h'
    exact ⟨by rw [e, e1], e2⟩
theorem JL_inj {c : Nat} : ∀ {ps qs : List (List Nat)}, ps ≠ [] → qs ≠ [] → (∀ p ∈ ps, c ∉ p) → (∀ q ∈ qs, c ∉ q) → JL c ps = JL c qs → ps = qs
  | [], _, h, _, _, _, _ => absurd rfl h
  | _ :: _, [], _, h, _, _, _ => absurd rfl h
  | [x], [y], _, _, _, _, h => by
    have h' : x = y := h
    rw [h']
  | [x], y :: z :: r, _, _, hp, _, h => by
    have h' : x = y ++ c :: JL c (z :: r) := h
    exact absurd (by rw [h']; exact List.mem_append_right _ List.mem_cons_self) (hp x List.mem_cons_self)
  | x :: w :: r, [y], _, _, _, hq, h => by
    have h' : x ++ c :: JL c (w :: r) = y := h
    exact absurd (by rw [← h']; exact List.mem_append_right _ List.mem_cons_self) (hq y List.mem_cons_self)
  | x :: w :: r, y :: z :: t, _, _, hp, hq, h => by
    have h' : x ++ c :: JL c (w :: r) = y ++ c :: JL c (z :: t) := h
    obtain ⟨e1, e2⟩ := cut_same (hp x List.mem_cons_self) (hq y List.mem_cons_self) h'
    rw [e1, JL_inj (by simp) (by simp) (fun p m => hp p (List.mem_cons_of_mem _ m)) (fun p m => hq p (List.mem_cons_of_mem _ m)) e2]
theorem split_joined {c : Nat} {ts : List Str} (h0 : ts ≠ []) (hf : ∀ t ∈ ts, c ∉ t.cps.toList) : Txt.split (Txt.join ⟨#[c]⟩ ts) ⟨#[c]⟩ = ts := by
  have e : Txt.join ⟨#[c]⟩ ts = Str.join ⟨#[c]⟩ ts := StrLaws.glued_eq_join _ _
  have hj := StrLaws.join_split (Txt.join ⟨#[c]⟩ ts) ⟨#[c]⟩
  have hfree := StrLaws.split_free (Txt.join ⟨#[c]⟩ ts) c
  have hpos := PyProof.Rows.split_pos (Txt.join ⟨#[c]⟩ ts) ⟨#[c]⟩
  generalize hq : Txt.split (Txt.join ⟨#[c]⟩ ts) ⟨#[c]⟩ = qs at hj hfree hpos
  rw [e] at hj
  have hc : (Str.join ⟨#[c]⟩ qs).cps.toList = (Str.join ⟨#[c]⟩ ts).cps.toList := by rw [hj]
  rw [join_cps, join_cps] at hc
  have z := JL_inj (c := c) (by intro z; have := congrArg List.length z; simp at this; rw [this] at hpos; simp at hpos) (by intro z; exact h0 (List.map_eq_nil_iff.mp z)) (fun p m => by obtain ⟨t, ht, rfl⟩ := List.mem_map.mp m; exact hfree t ht) (fun p m => by obtain ⟨t, ht, rfl⟩ := List.mem_map.mp m; exact hf t ht) hc
  have inj : ∀ {as bs : List Str}, (as.map fun t => t.cps.toList) = (bs.map fun t => t.cps.toList) → as = bs := by
    intro as
    induction as with
    | nil => intro bs h; exact (List.map_eq_nil_iff.mp h.symm).symm
    | cons a as ih =>
      intro bs h
      cases bs with
      | nil => cases h
      | cons b bs =>
        obtain ⟨h1, h2⟩ := List.cons.inj h
        rw [str_ext h1, ih h2]
  exact inj z
end PN
namespace PN
open PySem L2
theorem join_none : ∀ cs : List Nat, Txt.join "" (cs.map fun c => (⟨#[c]⟩ : Str)) = ⟨cs.toArray⟩ := by
  have key : ∀ cs : List Nat, (Str.join ("" : Str) (cs.map fun c => (⟨#[c]⟩ : Str))).cps.toList = cs := by
    intro cs
    induction cs with
    | nil => rfl
    | cons c cs ih =>
      cases cs with
      | nil => rfl
      | cons d r =>
        show (((⟨#[c]⟩ : Str) ++ ("" : Str) ++ Str.join ("" : Str) ((d :: r).map fun c => (⟨#[c]⟩ : Str))).cps).toList = c :: d :: r
        rw [Str.cps_append, Str.cps_append, Array.toList_append, Array.toList_append, ih]
        rfl
  intro cs
  have e : Txt.join "" (cs.map fun c => (⟨#[c]⟩ : Str)) = Str.join "" (cs.map fun c => (⟨#[c]⟩ : Str)) := StrLaws.glued_eq_join _ _
  rw [e]
  refine str_ext ?_
  rw [key]
theorem join_ok {sep : Str} {ts : List Str} {B : Nat} (hB : ∀ y ∈ ts, y.length ≤ B) (h : ts.length * B + ts.length * sep.length ≤ 16777216) : JoinOk sep ts = true := by
  unfold JoinOk
  rw [StrLaws.joinFits hB h]
  rfl
def postS (p : Post) : Str := figS p.1 ++ (":" : Str) ++ figS p.2
def lineS (L : List Post) : Str := Txt.join " " (L.map postS)
theorem postS_join (p : Post) : postS p = Txt.join ⟨#[58]⟩ [figS p.1, figS p.2] := by
  have e : Txt.join ⟨#[58]⟩ [figS p.1, figS p.2] = Str.join ⟨#[58]⟩ [figS p.1, figS p.2] := StrLaws.glued_eq_join _ _
  rw [e]
  have c : (":" : Str) = ⟨#[58]⟩ := by decide +kernel
  unfold postS
  rw [c]
  rfl
theorem figS_free (m c : Nat) (h : c < 48 ∨ 57 < c) : c ∉ (figS m).cps.toList := fun z => by
  rw [figS_cps] at z
  obtain ⟨d, hd, e⟩ := decL_fig m c z
  omega
theorem postS_split (p : Post) : Txt.split (postS p) ":" = [figS p.1, figS p.2] := by
  have c : (":" : Str) = ⟨#[58]⟩ := by decide +kernel
  rw [c, postS_join]
  refine split_joined (by simp) fun t ht => ?_
  simp only [List.mem_cons, List.not_mem_nil, or_false] at ht
  rcases ht with e | e <;> rw [e] <;> exact figS_free _ _ (.inr (by decide))
theorem postS_free (p : Post) : 32 ∉ (postS p).cps.toList := fun z => by
  unfold postS at z
  rw [Str.cps_append, Str.cps_append, Array.toList_append, Array.toList_append] at z
  rcases List.mem_append.mp z with z | z
  · rcases List.mem_append.mp z with z | z
    · exact figS_free _ _ (.inl (by decide)) z
    · have c : (":" : Str).cps.toList = [58] := by decide +kernel
      rw [c] at z
      simp at z
  · exact figS_free _ _ (.inl (by decide)) z
theorem lineS_split {L : List Post} (h : L ≠ []) : Txt.split (lineS L) " " = L.map postS := by
  have c : (" " : Str) = ⟨#[32]⟩ := by decide +kernel
  unfold lineS
  rw [c]
  refine split_joined (fun z => h (List.map_eq_nil_iff.mp z)) fun t ht => ?_
  obtain ⟨p, _, rfl⟩ := List.mem_map.mp ht
  exact postS_free p
theorem postS_length (p : Post) : (postS p).length ≤ p.1 + p.2 + 3 := by
  unfold postS
  rw [Str.length_append, Str.length_append, figS_length, figS_length]
  have h1 := (decL_length p.1).2
  have h2 := (decL_length p.2).2
  have h3 : (":" : Str).length = 1 := by decide +kernel
  omega
theorem JL_length (c : Nat) (B : Nat) : ∀ ts : List (List Nat), (∀ t ∈ ts, t.length ≤ B) → (JL c ts).length ≤ ts.length * (B + 1)
  | [], _ => Nat.zero_le _
  | [x], h => by
    show x.length ≤ 1 * (B + 1)
    have := h x List.mem_cons_self
    omega
  | x :: y :: r, h => by
    have ih := JL_length c B (y :: r) fun t ht => h t (List.mem_cons_of_mem _ ht)
    show (x ++ c :: JL c (y :: r)).length ≤ _
    rw [List.length_append, List.length_cons]
    have := h x List.mem_cons_self
    have e : (x :: y :: r).length * (B + 1) = (y :: r).length * (B + 1) + (B + 1) := by rw [List.length_cons (a := x), Nat.add_mul, Nat.one_mul]
    omega
theorem lineS_length {L : List Post} {B : Nat} (h : ∀ p ∈ L, p.1 + p.2 + 3 ≤ B) : (lineS L).length ≤ L.length * (B + 1) := by
  have c : (" " : Str) = ⟨#[32]⟩ := by decide +kernel
  have e : lineS L = Str.join ⟨#[32]⟩ (L.map postS) := by
    unfold lineS
    rw [c]
    exact StrLaws.glued_eq_join _ _
  have z := JL_length 32 B ((L.map postS).map fun t => t.cps.toList) (fun t ht => by
    obtain ⟨s, hs, rfl⟩ := List.mem_map.mp ht
    obtain ⟨p, hp, rfl⟩ := List.mem_map.mp hs
    have h1 := postS_length p
    have h2 := h p hp
    have h3 : (postS p).cps.toList.length = (postS p).length := by simp [Str.length]
    omega)
  rw [← join_cps, ← e, List.length_map, List.length_map] at z
  have h4 : (lineS L).cps.toList.length = (lineS L).length := by simp [Str.length]
  omega
end PN
namespace PN
open PySem L2
def top (i : Nat) : Stmt := PySem.Challenge.pw_postnet_k11_whole_written_and_read.main.body.getD i (.Pass ⟨0, 0, 0, 0⟩)
abbrev s_check_net : Stmt := top 5
abbrev s_layer_numbers : Stmt := top 7
abbrev s_layers : Stmt := top 8
abbrev s_figures_of : Stmt := top 11
abbrev s_number_of : Stmt := top 12
abbrev s_post_of : Stmt := top 13
abbrev s_line_of : Stmt := top 14
abbrev s_shown : Stmt := top 15
abbrev s_read : Stmt := top 16
abbrev s__law_whole : Stmt := top 18
abbrev s__law_at : Stmt := top 19
abbrev s__law_posts_by : Stmt := top 20
abbrev s__law_are_posts : Stmt := top 21
abbrev s__law_layered : Stmt := top 22
abbrev s__law_lines_of : Stmt := top 23
abbrev s__law_texts : Stmt := top 24
abbrev s__law_net_is : Stmt := top 25
abbrev s__law_stays_so : Stmt := top 26
abbrev s_law : Stmt := top 27
theorem sc_check_net : FnScope ["width", "posts", "number", "post"] ["width", "posts"] (defScope s_check_net) := ⟨rfl, rfl, rfl, by decide +kernel, rfl, by decide +kernel, by decide +kernel⟩
theorem sc_layer_numbers : FnScope ["posts", "layer_behind", "numbers", "low", "high", "number"] ["posts"] (defScope s_layer_numbers) := ⟨rfl, rfl, rfl, by decide +kernel, rfl, by decide +kernel, by decide +kernel⟩
theorem sc_layers : FnScope ["width", "posts", "found", "post", "number"] ["width", "posts"] (defScope s_layers) := ⟨rfl, rfl, rfl, by decide +kernel, rfl, by decide +kernel, by decide +kernel⟩
theorem sc_figures_of : FnScope ["number", "figures"] ["number"] (defScope s_figures_of) := ⟨rfl, rfl, rfl, by decide +kernel, rfl, by decide +kernel, by decide +kernel⟩
theorem sc_number_of : FnScope ["text", "number", "sign"] ["text"] (defScope s_number_of) := ⟨rfl, rfl, rfl, by decide +kernel, rfl, by decide +kernel, by decide +kernel⟩
theorem sc_post_of : FnScope ["text", "lanes"] ["text"] (defScope s_post_of) := ⟨rfl, rfl, rfl, by decide +kernel, rfl, by decide +kernel, by decide +kernel⟩
theorem sc_line_of : FnScope ["layer"] ["layer"] (defScope s_line_of) := ⟨rfl, rfl, rfl, by decide +kernel, rfl, by decide +kernel, by decide +kernel⟩
theorem sc_shown : FnScope ["width", "posts", "found"] ["width", "posts"] (defScope s_shown) := ⟨rfl, rfl, rfl, by decide +kernel, rfl, by decide +kernel, by decide +kernel⟩
theorem sc_read : FnScope ["lines", "width", "posts", "line", "e"] ["lines"] (defScope s_read) := ⟨rfl, rfl, rfl, by decide +kernel, rfl, by decide +kernel, by decide +kernel⟩
theorem sc__law_whole : FnScope ["_law_found"] ["_law_found"] (defScope s__law_whole) := ⟨rfl, rfl, rfl, by decide +kernel, rfl, by decide +kernel, by decide +kernel⟩
theorem sc__law_at : FnScope ["_law_script", "_law_k"] ["_law_script", "_law_k"] (defScope s__law_at) := ⟨rfl, rfl, rfl, by decide +kernel, rfl, by decide +kernel, by decide +kernel⟩
theorem sc__law_posts_by : FnScope ["_law_width", "_law_cells", "_law_posts", "_law_cell", "_law_low", "_law_high"] ["_law_width", "_law_cells"] (defScope s__law_posts_by) := ⟨rfl, rfl, rfl, by decide +kernel, rfl, by decide +kernel, by decide +kernel⟩
theorem sc__law_are_posts : FnScope ["_law_found", "_law_post"] ["_law_found"] (defScope s__law_are_posts) := ⟨rfl, rfl, rfl, by decide +kernel, rfl, by decide +kernel, by decide +kernel⟩
theorem sc__law_layered : FnScope ["_law_posts", "_law_rows", "_law_post", "_law_place", "_law_k", "_law_one"] ["_law_posts"] (defScope s__law_layered) := ⟨rfl, rfl, rfl, by decide +kernel, rfl, by decide +kernel, by decide +kernel⟩
theorem sc__law_lines_of : FnScope ["_law_width", "_law_rows", "_law_lines", "_law_row"] ["_law_width", "_law_rows"] (defScope s__law_lines_of) := ⟨rfl, rfl, rfl, by decide +kernel, rfl, by decide +kernel, by decide +kernel⟩
theorem sc__law_texts : FnScope ["_law_found", "_law_due", "_law_k"] ["_law_found", "_law_due"] (defScope s__law_texts) := ⟨rfl, rfl, rfl, by decide +kernel, rfl, by decide +kernel, by decide +kernel⟩
theorem sc__law_net_is : FnScope ["_law_found", "_law_width", "_law_posts"] ["_law_found", "_law_width", "_law_posts"] (defScope s__law_net_is) := ⟨rfl, rfl, rfl, by decide +kernel, rfl, by decide +kernel, by decide +kernel⟩
theorem sc__law_stays_so : FnScope ["_law_handed", "_law_own", "_law_left", "_law_right", "_law_one", "_law_two"] ["_law_handed", "_law_own"] (defScope s__law_stays_so) := ⟨rfl, rfl, rfl, by decide +kernel, rfl, by decide +kernel, by decide +kernel⟩
theorem sc_law : FnScope ["_law_script", "_law_width", "_law_posts", "_law_rows", "_law_due", "_law_found", "_law_flat", "_law_row", "_law_handed", "_law_size", "_law_free"] ["_law_script"] (defScope s_law) := ⟨rfl, rfl, rfl, by decide +kernel, rfl, by decide +kernel, by decide +kernel⟩
structure Adr where
  a_check_net : Addr
  fd_check_net : FuncData
  a_layer_numbers : Addr
  fd_layer_numbers : FuncData
  a_layers : Addr
  fd_layers : FuncData
  a_figures_of : Addr
  fd_figures_of : FuncData
  a_number_of : Addr
  fd_number_of : FuncData
  a_post_of : Addr
  fd_post_of : FuncData
  a_line_of : Addr
  fd_line_of : FuncData
  a_shown : Addr
  fd_shown : FuncData
  a_read : Addr
  fd_read : FuncData
  a__law_whole : Addr
  fd__law_whole : FuncData
  a__law_at : Addr
  fd__law_at : FuncData
  a__law_posts_by : Addr
  fd__law_posts_by : FuncData
  a__law_are_posts : Addr
  fd__law_are_posts : FuncData
  a__law_layered : Addr
  fd__law_layered : FuncData
  a__law_lines_of : Addr
  fd__law_lines_of : FuncData
  a__law_texts : Addr
  fd__law_texts : FuncData
  a__law_net_is : Addr
  fd__law_net_is : FuncData
  a__law_stays_so : Addr
  fd__law_stays_so : FuncData
  a_law : Addr
  fd_law : FuncData
  c_NetError : Addr
  c_BadPost : Addr
  c_NoNet : Addr
  t_FIGURES : Tok
structure Txt (K : PySem.W.Frag) (mg : Str → Option Value) (t : Adr) : Prop where
  F_check_net : Fun K "check_net" "check_net" s_check_net t.a_check_net t.fd_check_net
  b_check_net : Binds K t.fd_check_net ["width", "posts"] []
  m_check_net : mg "check_net" = some (.ref t.a_check_net)
  F_layer_numbers : Fun K "layer_numbers" "layer_numbers" s_layer_numbers t.a_layer_numbers t.fd_layer_numbers
  b_layer_numbers : Binds K t.fd_layer_numbers ["posts"] []
  m_layer_numbers : mg "layer_numbers" = some (.ref t.a_layer_numbers)
  F_layers : Fun K "layers" "layers" s_layers t.a_layers t.fd_layers
  b_layers : Binds K t.fd_layers ["width", "posts"] []
  m_layers : mg "layers" = some (.ref t.a_layers)
  F_figures_of : Fun K "figures_of" "figures_of" s_figures_of t.a_figures_of t.fd_figures_of
  b_figures_of : Binds K t.fd_figures_of ["number"] []
  m_figures_of : mg "figures_of" = some (.ref t.a_figures_of)
  F_number_of : Fun K "number_of" "number_of" s_number_of t.a_number_of t.fd_number_of
  b_number_of : Binds K t.fd_number_of ["text"] []
  m_number_of : mg "number_of" = some (.ref t.a_number_of)
  F_post_of : Fun K "post_of" "post_of" s_post_of t.a_post_of t.fd_post_of
  b_post_of : Binds K t.fd_post_of ["text"] []
  m_post_of : mg "post_of" = some (.ref t.a_post_of)
  F_line_of : Fun K "line_of" "line_of" s_line_of t.a_line_of t.fd_line_of
  b_line_of : Binds K t.fd_line_of ["layer"] []
  m_line_of : mg "line_of" = some (.ref t.a_line_of)
  F_shown : Fun K "shown" "shown" s_shown t.a_shown t.fd_shown
  b_shown : Binds K t.fd_shown ["width", "posts"] []
  m_shown : mg "shown" = some (.ref t.a_shown)
  F_read : Fun K "read" "read" s_read t.a_read t.fd_read
  b_read : Binds K t.fd_read ["lines"] []
  m_read : mg "read" = some (.ref t.a_read)
  F__law_whole : Fun K "_law_whole" "_law_whole" s__law_whole t.a__law_whole t.fd__law_whole
  b__law_whole : Binds K t.fd__law_whole ["_law_found"] []
  m__law_whole : mg "_law_whole" = some (.ref t.a__law_whole)
  F__law_at : Fun K "_law_at" "_law_at" s__law_at t.a__law_at t.fd__law_at
  b__law_at : Binds K t.fd__law_at ["_law_script", "_law_k"] []
  m__law_at : mg "_law_at" = some (.ref t.a__law_at)
  F__law_posts_by : Fun K "_law_posts_by" "_law_posts_by" s__law_posts_by t.a__law_posts_by t.fd__law_posts_by
  b__law_posts_by : Binds K t.fd__law_posts_by ["_law_width", "_law_cells"] []
  m__law_posts_by : mg "_law_posts_by" = some (.ref t.a__law_posts_by)
  F__law_are_posts : Fun K "_law_are_posts" "_law_are_posts" s__law_are_posts t.a__law_are_posts t.fd__law_are_posts
  b__law_are_posts : Binds K t.fd__law_are_posts ["_law_found"] []
  m__law_are_posts : mg "_law_are_posts" = some (.ref t.a__law_are_posts)
  F__law_layered : Fun K "_law_layered" "_law_layered" s__law_layered t.a__law_layered t.fd__law_layered
  b__law_layered : Binds K t.fd__law_layered ["_law_posts"] []
  m__law_layered : mg "_law_layered" = some (.ref t.a__law_layered)
  F__law_lines_of : Fun K "_law_lines_of" "_law_lines_of" s__law_lines_of t.a__law_lines_of t.fd__law_lines_of
  b__law_lines_of : Binds K t.fd__law_lines_of ["_law_width", "_law_rows"] []
  m__law_lines_of : mg "_law_lines_of" = some (.ref t.a__law_lines_of)
  F__law_texts : Fun K "_law_texts" "_law_texts" s__law_texts t.a__law_texts t.fd__law_texts
  b__law_texts : Binds K t.fd__law_texts ["_law_found", "_law_due"] []
  m__law_texts : mg "_law_texts" = some (.ref t.a__law_texts)
  F__law_net_is : Fun K "_law_net_is" "_law_net_is" s__law_net_is t.a__law_net_is t.fd__law_net_is
  b__law_net_is : Binds K t.fd__law_net_is ["_law_found", "_law_width", "_law_posts"] []
  m__law_net_is : mg "_law_net_is" = some (.ref t.a__law_net_is)
  F__law_stays_so : Fun K "_law_stays_so" "_law_stays_so" s__law_stays_so t.a__law_stays_so t.fd__law_stays_so
  b__law_stays_so : Binds K t.fd__law_stays_so ["_law_handed", "_law_own"] []
  m__law_stays_so : mg "_law_stays_so" = some (.ref t.a__law_stays_so)
  F_law : Fun K "law" "law" s_law t.a_law t.fd_law
  b_law : Binds K t.fd_law ["_law_script"] []
  m_law : mg "law" = some (.ref t.a_law)
  z_bool : mg "bool" = none
  z_enumerate : mg "enumerate" = none
  z_int : mg "int" = none
  z_isinstance : mg "isinstance" = none
  z_len : mg "len" = none
  z_list : mg "list" = none
  z_max : mg "max" = none
  z_range : mg "range" = none
  z_reversed : mg "reversed" = none
  z_sorted : mg "sorted" = none
  z_str : mg "str" = none
  z_tuple : mg "tuple" = none
  z_zip : mg "zip" = none
  c_FIGURES : mg "FIGURES" = some (.str "0123456789" t.t_FIGURES)
  bl : ∀ (s : Shared) (v : Value), BindsTo s t.fd_law ⟨[v], []⟩ [("_law_script", v)]
end PN
namespace PN
open PySem L2
/-! ### the promises -/
def sp_check_net : Sp := fun vs H Q _ => ∃ (w : Int) (a : Addr) (ps : List Post), vs = [.int w, .ref a] ∧ Posts H a ps ∧ 1 ≤ w ∧ Net w.toNat ps ∧ ∀ H', Same H H' → Q .non H'
def sp_check_row : Sp := fun vs H Q _ => ∃ (w : Int) (a b : Addr) (ps : List Post) (ys : List V), vs = [.int w, .ref a, .ref b] ∧ Posts H a ps ∧ 1 ≤ w ∧ Net w.toNat ps ∧ H b = some (.lst ys) ∧ (ys.length : Int) = w ∧ ∀ H', Same H H' → Q .non H'
def sp_pass_post : Sp := fun vs H Q _ => ∃ (lo hi : Nat) (l : Addr) (xs : List Int), vs = [.int (lo : Nat), .int (hi : Nat), .ref l] ∧ Ints H l xs ∧ lo < xs.length ∧ hi < xs.length ∧
  ∀ H', Ints H' l (stepRow xs (lo, hi)) → (∀ b, b ≠ l → H' b = H b) → Q (.bl (acts xs (lo, hi))) H'
def sp_passed : Sp := fun vs H Q _ => ∃ (a b : Addr) (ps : List Post) (xs : List Int), vs = [.ref a, .ref b] ∧ Posts H a ps ∧ Ints H b xs ∧ Net xs.length ps ∧
  ∀ l H', Same H H' → H l = none → Ints H' l (passAll ps xs) → Q (.ref l) H'
def sp_run : Sp := fun vs H Q _ => ∃ (w : Int) (a b : Addr) (ps : List Post) (xs : List Int), vs = [.int w, .ref a, .ref b] ∧ Posts H a ps ∧ 1 ≤ w ∧ Net w.toNat ps ∧ Ints H b xs ∧ (xs.length : Int) = w ∧
  ∀ l H', Same H H' → H l = none → Ints H' l (passAll ps xs) → Q (.ref l) H'
section
variable {P : Program} {w : World} {K : PySem.W.Frag} {mg : Str → Option Value} {base : Heap} {t : Adr}
theorem ok_check_net (T : Txt K mg t) : FnOk P w K mg base CX0 1 t.a_check_net t.fd_check_net ["width", "posts"] sp_check_net := by
  refine T.F_check_net.ok sc_check_net (fun vs H Q E h => ?_) (fun cdv A outer s H vs Q E hr h => ?_)
  · obtain ⟨w, a, ps, rfl, _⟩ := h
    rfl
  · obtain ⟨w, a, ps, rfl, ⟨rs, hl, ht⟩, h1, hn, k⟩ := h
    refine ⟨_, (pss_cons (ps_if (pt_cmpR op_lt (pv 0) pe_int (nomark _)) (pss_one ps_never)
        pss_nil)
      (pss_one (ps_for PassesOwn.never rfl (pi_enum rfl T.z_enumerate (pa_cons (pv 1) pa_nil)) (pg_tup rfl (pgs_cons (pg_name (i := 2) sc_check_net.nd rfl (Or.inl rfl)) (pgs_cons (pg_name (i := 3) sc_check_net.nd rfl (Or.inl rfl)) pgs_nil)))
        (pss_one (ps_if (pt_not (pt_chain3 op_le op_lt op_lt pe_int (pe_ix ix_tup (pv 3) pe_int (fun _ _ => rfl)) (pe_ix ix_tup (pv 3) pe_int (fun _ _ => rfl)) (pv 0))) (pss_one ps_never)
          pss_nil))))), ?_⟩
    refine ⟨_, rfl, _, _, rfl, rfl, _, rfl, ?_⟩
    refine iteDn (by omega) ?_
    refine ⟨_, rfl, a, rfl, ⟨_, SqL.of hl⟩, for_enum (K := K) (a := a) (xs := rs.map V.ref) (fun i σ H2 => ∃ u v : Option V, σ = [some (.int w), some (.ref a), u, v] ∧ Same H H2)
      ⟨none, none, rfl, Same.refl H⟩ (fun i σ H2 _ ⟨_, _, _, s2⟩ => SqL.of (s2 _ _ hl)) ?_ ?_⟩
    · rintro i x q σ H2 hi ⟨u, v, rfl, s2⟩ hq
      obtain ⟨r, hr', rfl⟩ := map_get hi
      obtain ⟨p, hp, er⟩ := ht.get hr'
      obtain ⟨n1, n2⟩ := hn.at hp
      have er2 : (upd H2 q (.tup [.int (i : Nat), .ref r])) r = some (.tup [.int (p.1 : Nat), .int (p.2 : Nat)]) := by
        rw [upd_ne (ne_of_none (s2 _ _ er) hq)]
        exact s2 _ _ er
      refine ⟨q, _, rfl, SqT.of upd_same, rfl, _, _, rfl, _, _, rfl, rfl, ?_⟩
      refine ⟨_, rfl, r, _, _, _, rfl, rfl, SqT.of er2, rfl, _, _, rfl, rfl, _, rfl, ?_⟩
      refine iteD (by omega) ?_
      refine ⟨_, rfl, r, _, _, _, rfl, rfl, SqT.of er2, rfl, _, _, rfl, rfl, _, rfl, ?_⟩
      refine iteD (by omega) ?_
      refine ⟨_, rfl, _, _, rfl, rfl, _, rfl, ?_⟩
      refine iteNS (by omega) ?_
      exact ⟨_, _, rfl, s2.upd (s2.free hq)⟩
    · rintro σ H2 ⟨u, v, rfl, s2⟩
      exact k H2 s2
end
end PN
namespace PN
open PySem L2
/-! ### the law's own helpers -/
def sp_whole : Sp := fun vs H Q _ => ∃ i : Int, vs = [.int i] ∧ Q (.bl true) H
def sp_at : Sp := fun vs H Q _ => ∃ (a : Addr) (k : Nat) (ns : List Int), vs = [.ref a, .int (k : Nat)] ∧ Ints H a ns ∧ ns.length ≤ 1000 ∧ Q (.int (ns.getD k 0)) H
def sp_posts_by : Sp := fun vs H Q _ => ∃ (w : Int) (a : Addr) (cs : List Int), vs = [.int w, .ref a] ∧ Ints H a cs ∧ 1 ≤ w ∧ w ≤ 1000000 ∧ cs.length ≤ 1000 ∧
  ∀ l ps H', Same H H' → H l = none → Posts H' l ps → Net w.toNat ps → ps.length ≤ cs.length → Q (.ref l) H'
def sp_row_by : Sp := fun vs H Q _ => ∃ (w : Int) (a : Addr) (cs : List Int), vs = [.int w, .ref a] ∧ Ints H a cs ∧ 1 ≤ w ∧ w ≤ 1000 ∧ cs.length ≤ 1000 ∧
  ∀ l xs H', Same H H' → H l = none → Ints H' l xs → (xs.length : Int) = w → Q (.ref l) H'
def sp_figures : Sp := fun vs H Q _ => ∃ (a b : Addr) (xs : List Int), vs = [.ref a, .ref b] ∧ Ints H a xs ∧ Ints H b xs ∧ xs.length ≤ 100000 ∧ ∀ H', Same H H' → Q (.bl true) H'
def sp_stays : Sp := fun vs H Q _ => ∃ (v u : V) (n : Nat), vs = [v, u] ∧ Goes H n [v] [u] ∧ n ≤ 100000 ∧ ∀ H', Same H H' → Q (.bl true) H'
section
variable {P : Program} {w : World} {K : PySem.W.Frag} {mg : Str → Option Value} {base : Heap} {t : Adr}
theorem ok__law_whole (T : Txt K mg t) : FnOk P w K mg base CX0 1 t.a__law_whole t.fd__law_whole ["_law_found"] sp_whole := by
  refine T.F__law_whole.ok sc__law_whole (fun vs H Q E h => ?_) (fun cdv A outer s H vs Q E hr h => ?_)
  · obtain ⟨i, rfl, _⟩ := h
    rfl
  · obtain ⟨i, rfl, k⟩ := h
    refine ⟨_, (pss_one (ps_ret (pe_and (pe_callB call_isi (by rfl) T.z_isinstance PyProof.Rows.boot_isinstance (pa_cons (pv 0) (pa_cons (pe_bltn (v := .ty "int") rfl T.z_int PyProof.Rows.boot_int rfl) pa_nil))) (pe_one (pe_not (pe_callB call_isi (by rfl) T.z_isinstance PyProof.Rows.boot_isinstance (pa_cons (pv 0) (pa_cons (pe_bltn (v := .ty "bool") rfl T.z_bool PyProof.Rows.boot_bool rfl) pa_nil)))))))), ?_⟩
    refine ⟨_, rfl, _, _, _, _, rfl, TyOf.int i, kit_ii, _, rfl, ?_⟩
    refine iteT ?_
    exact ⟨_, rfl, _, _, _, _, rfl, TyOf.int i, kit_ib, _, rfl, k⟩
theorem ok__law_at (T : Txt K mg t) : FnOk P w K mg base CX0 1 t.a__law_at t.fd__law_at ["_law_script", "_law_k"] sp_at := by
  refine T.F__law_at.ok sc__law_at (fun vs H Q E h => ?_) (fun cdv A outer s H vs Q E hr h => ?_)
  · obtain ⟨a, i, ns, rfl, _⟩ := h
    rfl
  · obtain ⟨a, i, ns, rfl, ha, hl, k⟩ := h
    refine ⟨_, (pss_cons (ps_if (pt_cmpR op_lt (pv 1) (pe_callB call_len_seq (by rfl) T.z_len PySem.boot_len (pa_cons (pv 0) pa_nil)) (nomark _)) (pss_one (ps_ret (pe_ix ix_list (pv 0) (pv 1) (fun _ _ => rfl))))
        pss_nil)
      (pss_one (ps_ret pe_int))), ?_⟩
    refine ⟨_, rfl, _, rfl, a, _, rfl, .inl (SqL.of ha), _, _, rfl, rfl, _, rfl, ?_⟩
    by_cases c : i < ns.length
    · refine iteD (by rw [List.length_map]; omega) ?_
      exact ⟨_, rfl, _, rfl, a, _, _, _, rfl, rfl, SqL.of ha, at_ints c, k⟩
    · refine iteDn (by rw [List.length_map]; omega) ?_
      have e : ns.getD i 0 = 0 := by rw [List.getD_eq_getElem?_getD, List.getElem?_eq_none (by omega)]; rfl
      rw [e] at k
      exact k
/-- a post by a cell -/
theorem post_by {w c : Int} (h : 1 < w) : 0 ≤ c % (w - 1) ∧ c % (w - 1) < c % (w - 1) + 1 + c / (w - 1) % (w - 1 - c % (w - 1)) ∧ c % (w - 1) + 1 + c / (w - 1) % (w - 1 - c % (w - 1)) < w := by
  have h1 := Int.emod_nonneg c (show w - 1 ≠ 0 by omega)
  have h2 := Int.emod_lt_of_pos c (show 0 < w - 1 by omega)
  have h3 := Int.emod_nonneg (c / (w - 1)) (show w - 1 - c % (w - 1) ≠ 0 by omega)
  have h4 := Int.emod_lt_of_pos (c / (w - 1)) (show 0 < w - 1 - c % (w - 1) by omega)
  omega
theorem ok__law_posts_by (T : Txt K mg t) : FnOk P w K mg base CX0 1 t.a__law_posts_by t.fd__law_posts_by ["_law_width", "_law_cells"] sp_posts_by := by
  refine T.F__law_posts_by.ok sc__law_posts_by (fun vs H Q E h => ?_) (fun cdv A outer s H vs Q E hr h => ?_)
  · obtain ⟨w, a, cs, rfl, _⟩ := h
    rfl
  · obtain ⟨w, a, cs, rfl, ha, h1, hbig, hl, k⟩ := h
    refine ⟨_, (pss_cons (ps_set (i := 2) sc__law_posts_by.nd rfl (Or.inl rfl) (pe_lst pa_nil))
      (pss_cons (ps_for PassesOwn.never rfl (pi_list (pv 1)) (pg_name (i := 3) sc__law_posts_by.nd rfl (Or.inl rfl))
        (pss_one (ps_if (pt_cmpR op_gt (pv 0) pe_int (nomark _)) (pss_cons (ps_set (i := 4) sc__law_posts_by.nd rfl (Or.inl rfl) (pe_op op_mod (pv 3) (pe_op op_sub (pv 0) pe_int)))
          (pss_cons (ps_set (i := 5) sc__law_posts_by.nd rfl (Or.inl rfl) (pe_op op_add (pe_op op_add (pv 4) pe_int) (pe_op op_mod (pe_op op_fdiv (pv 3) (pe_op op_sub (pv 0) pe_int)) (pe_op op_sub (pe_op op_sub (pv 0) pe_int) (pv 4)))))
          (pss_one (ps_expr (pe_bm PySem.F.plainAttrs_list PySem.F.slot_list_append PySem.F.type_list_append mt_append (pv 2) (pa_cons (pe_tup (pa_cons (pv 4) (pa_cons (pv 5) pa_nil))) pa_nil))))))
          pss_nil)))
      (pss_one (ps_ret (pv 2))))), ?_⟩
    refine ⟨Nat.zero_le _, fun l hnl => ?_⟩
    have s0 : Same H (upd H l (.lst [])) := Same.new hnl
    refine ⟨_, rfl, a, rfl, ⟨_, SqL.of (s0 _ _ ha)⟩, for_list (K := K) (a := a) (xs := cs.map V.int) (fun i σ H2 => ∃ (u v y : Option V) (rs : List Addr) (ps : List Post), σ = [some (.int w), some (.ref a), some (.ref l), u, v, y] ∧ Same H H2 ∧
        H2 l = some (.lst (rs.map V.ref)) ∧ Tups H2 rs ps ∧ Net w.toNat ps ∧ ps.length ≤ i)
      ⟨none, none, none, [], [], rfl, s0, upd_same, ⟨rfl, fun i r p z _ => by simp at z⟩, fun p hp => by simp at hp, Nat.le_refl _⟩ (fun i σ H2 _ ⟨_, _, _, _, _, _, s2, _⟩ => SqL.of (s2 _ _ ha)) ?_ ?_⟩
    · rintro i x σ H2 hi ⟨u, v, y, rs, ps, rfl, s2, e2, t2, n2, l2⟩
      have hil : i < cs.length := by
        have z := (List.getElem?_eq_some_iff.mp hi).1
        rw [List.length_map] at z
        exact z
      obtain ⟨c, hc, rfl⟩ := map_get hi
      refine ⟨_, rfl, _, _, rfl, rfl, _, rfl, ?_⟩
      by_cases hw : 1 < w
      · refine iteD hw ?_
        obtain ⟨q1, q2, q3⟩ := post_by (c := c) hw
        refine ⟨_, rfl, _, rfl, _, _, rfl, rfl, _, _, rfl, rfl, (by show 0 < w - 1; omega), ?_⟩
        refine ⟨_, rfl, _, _, rfl, rfl, _, rfl, _, rfl, _, _, rfl, rfl, _, _, rfl, rfl, (show 0 < w - 1 ∧ w - 1 < 1073741824 by omega), _, rfl, _, _, rfl, rfl, _, rfl, _, _, rfl, rfl, _, _, rfl, rfl, (show 0 < w - 1 - c % (w - 1) by
            have z := Int.emod_lt_of_pos c (show 0 < w - 1 by omega)
            omega), _, _, rfl, rfl, ?_⟩
        refine ⟨_, rfl, .inl ⟨rfl, _, SqL.of e2⟩, _, rfl, _, rfl, (by show 2 ≤ sizeLine; decide), fun q hq => ⟨l, _, _, rfl, rfl, (by rw [upd_ne (ne_of_none e2 hq)]; exact e2), big' (by rw [List.length_map, t2.1]; omega), ?_⟩⟩
        have nql : q ≠ l := (ne_of_none e2 hq).symm
        refine ⟨_, _, _, rs ++ [q], ps ++ [((c % (w - 1)).toNat, (c % (w - 1) + 1 + c / (w - 1) % (w - 1 - c % (w - 1))).toNat)], rfl, (s2.upd (s2.free hq)).upd hnl, ?_, ?_, ?_, ?_⟩
        · rw [upd_same, List.map_append]
          rfl
        · refine Tups.snoc ?_ ?_
          · exact (t2.mono (Same.new hq)).keep (tup_keep (by rw [upd_ne nql.symm]; exact e2))
          · rw [upd_ne nql, upd_same]
            have e1 : ((c % (w - 1)).toNat : Int) = c % (w - 1) := by omega
            have e3 : ((c % (w - 1) + 1 + c / (w - 1) % (w - 1 - c % (w - 1))).toNat : Int) = c % (w - 1) + 1 + c / (w - 1) % (w - 1 - c % (w - 1)) := by omega
            show some (HO.tup [.int _, .int _]) = some (HO.tup [.int ((c % (w - 1)).toNat : Int), .int ((c % (w - 1) + 1 + c / (w - 1) % (w - 1 - c % (w - 1))).toNat : Int)])
            rw [e1, e3]
        · intro p hp
          rcases List.mem_append.mp hp with hp | hp
          · exact n2 p hp
          · rw [List.mem_singleton.mp hp]
            show (c % (w - 1)).toNat < (c % (w - 1) + 1 + c / (w - 1) % (w - 1 - c % (w - 1))).toNat ∧ (c % (w - 1) + 1 + c / (w - 1) % (w - 1 - c % (w - 1))).toNat < w.toNat
            omega
        · rw [List.length_append, List.length_singleton]
          omega
      · refine iteDn hw ?_
        exact ⟨_, _, _, rs, ps, rfl, s2, e2, t2, n2, by omega⟩
    · rintro σ H2 ⟨u, v, y, rs, ps, rfl, s2, e2, t2, n2, l2⟩
      rw [List.length_map] at l2
      exact ⟨_, rfl, k l ps H2 s2 hnl ⟨rs, e2, t2⟩ n2 l2⟩
/-- a number by a cell -/
theorem row_by {c k : Int} : ∃ z : Int, atI [V.int (c / 4 % 5 - 2), V.int (c % 7 - 3), V.int (0 - k), V.int (10 ^ (30 : Int).toNat - k)] (c % 4) = some (.int z) := by
  have h1 := Int.emod_nonneg c (show (4 : Int) ≠ 0 by decide)
  have h2 := Int.emod_lt_of_pos c (show (0 : Int) < 4 by decide)
  have h3 : c % 4 = ((0 : Nat) : Int) ∨ c % 4 = ((1 : Nat) : Int) ∨ c % 4 = ((2 : Nat) : Int) ∨ c % 4 = ((3 : Nat) : Int) := by omega
  rcases h3 with e | e | e | e
  all_goals
    rw [e]
    exact ⟨_, atI_nat rfl⟩
theorem cells_eq (cs : List Int) (n : Nat) : cs.map V.int ++ (List.replicate n [V.int 0]).flatten = (cs ++ List.replicate n 0).map V.int := by
  rw [List.map_append, List.map_replicate]
  congr 1
  induction n with
  | zero => rfl
  | succ n ih => rw [List.replicate_succ, List.flatten_cons, ih, List.replicate_succ]; rfl
theorem cells_len (n : Nat) : (List.replicate n [V.int 0]).flatten.length = n := by rw [len_rep, List.length_singleton, Nat.mul_one]
theorem last_at (xs : List V) (x : V) : (xs ++ [x])[(xs ++ [x]).length - 1]? = some x := by simp
theorem ok__law_stays_so (T : Txt K mg t) : FnOk P w K mg base CX0 1 t.a__law_stays_so t.fd__law_stays_so ["_law_handed", "_law_own"] sp_stays := by
  refine T.F__law_stays_so.ok sc__law_stays_so (fun vs H Q E h => ?_) (fun cdv A outer s H vs Q E hr h => ?_)
  · obtain ⟨v, u, n, rfl, _⟩ := h
    rfl
  · obtain ⟨v, u, n, rfl, hg, hn, k⟩ := h
    have hu := hr.units0
    refine ⟨_, (pss_cons (ps_set (i := 2) sc__law_stays_so.nd rfl (Or.inl rfl) (pe_lst (pa_cons (pv 0) pa_nil)))
      (pss_cons (ps_set (i := 3) sc__law_stays_so.nd rfl (Or.inl rfl) (pe_lst (pa_cons (pv 1) pa_nil)))
      (pss_cons (ps_while PassesOwn.never (pt_cmpR (op_neNil hu) (pv 3) (pe_lst pa_nil) (nomark _)) (pss_cons (ps_set (i := 4) sc__law_stays_so.nd rfl (Or.inl rfl) (pe_bm0 PySem.F.plainAttrs_list PySem.F.slot_list_pop PySem.F.type_list_pop mt_pop (pv 2)))
        (pss_cons (ps_set (i := 5) sc__law_stays_so.nd rfl (Or.inl rfl) (pe_bm0 PySem.F.plainAttrs_list PySem.F.slot_list_pop PySem.F.type_list_pop mt_pop (pv 3)))
        (pss_one (ps_if (pt_val (pe_callB call_isi2 (by rfl) T.z_isinstance PyProof.Rows.boot_isinstance (pa_cons (pv 5) (pa_cons (pe_tup (pa_cons (pe_bltn (v := .ty "list") rfl T.z_list PyProof.Rows.boot_list rfl) (pa_cons (pe_bltn (v := .ty "tuple") rfl T.z_tuple PyProof.Rows.boot_tuple rfl) pa_nil))) pa_nil)))) (pss_cons (ps_if (pt_cmpR op_ne (pe_callB call_isi (by rfl) T.z_isinstance PyProof.Rows.boot_isinstance (pa_cons (pv 4) (pa_cons (pe_bltn (v := .ty "list") rfl T.z_list PyProof.Rows.boot_list rfl) pa_nil))) (pe_callB call_isi (by rfl) T.z_isinstance PyProof.Rows.boot_isinstance (pa_cons (pv 5) (pa_cons (pe_bltn (v := .ty "list") rfl T.z_list PyProof.Rows.boot_list rfl) pa_nil))) (nomark _)) (pss_one (ps_ret pe_bl))
            pss_nil)
          (pss_cons (ps_if (PW.pt (pw_or (pt_cmpR op_ne (pe_callB call_isi (by rfl) T.z_isinstance PyProof.Rows.boot_isinstance (pa_cons (pv 4) (pa_cons (pe_bltn (v := .ty "tuple") rfl T.z_tuple PyProof.Rows.boot_tuple rfl) pa_nil))) (pe_callB call_isi (by rfl) T.z_isinstance PyProof.Rows.boot_isinstance (pa_cons (pv 5) (pa_cons (pe_bltn (v := .ty "tuple") rfl T.z_tuple PyProof.Rows.boot_tuple rfl) pa_nil))) (nomark _)) (pw_or1 (pt_cmpR op_ne (pe_callB call_len_seq (by rfl) T.z_len PySem.boot_len (pa_cons (pv 4) pa_nil)) (pe_callB call_len_seq (by rfl) T.z_len PySem.boot_len (pa_cons (pv 5) pa_nil)) (nomark _))))) (pss_one (ps_ret pe_bl))
            pss_nil)
          (pss_cons (ps_expr (pe_bm PySem.F.plainAttrs_list PySem.F.slot_list_extend PySem.F.type_list_extend mt_extend (pv 2) (pa_cons (pe_callTy call_list_of (by rfl) T.z_list PyProof.Rows.boot_list (pa_cons (pv 4) pa_nil)) pa_nil)))
          (pss_one (ps_expr (pe_bm PySem.F.plainAttrs_list PySem.F.slot_list_extend PySem.F.type_list_extend mt_extend (pv 3) (pa_cons (pe_callTy call_list_of (by rfl) T.z_list PyProof.Rows.boot_list (pa_cons (pv 5) pa_nil)) pa_nil)))))))
          (pss_one (ps_if (pt_val (pe_callB call_isi (by rfl) T.z_isinstance PyProof.Rows.boot_isinstance (pa_cons (pv 5) (pa_cons (pe_bltn (v := .ty "str") rfl T.z_str PyProof.Rows.boot_str rfl) pa_nil)))) (pss_one (ps_if (PW.pt (pw_or (pt_not (pt_val (pe_callB call_isi (by rfl) T.z_isinstance PyProof.Rows.boot_isinstance (pa_cons (pv 4) (pa_cons (pe_bltn (v := .ty "str") rfl T.z_str PyProof.Rows.boot_str rfl) pa_nil))))) (pw_or1 (pt_cmpR op_ne (pv 4) (pv 5) (nomark _))))) (pss_one (ps_ret pe_bl))
              pss_nil))
            (pss_one (ps_if (pt_cmp (pc_isN (pv 5))) (pss_one (ps_if (pt_cmp (pc_notN (pv 4))) (pss_one (ps_ret pe_bl))
                pss_nil))
              (pss_one (ps_if (PW.pt (pw_or (pt_not (pt_val (pe_callB call_isi (by rfl) T.z_isinstance PyProof.Rows.boot_isinstance (pa_cons (pv 4) (pa_cons (pe_bltn (v := .ty "int") rfl T.z_int PyProof.Rows.boot_int rfl) pa_nil))))) (pw_or (pt_val (pe_callB call_isi (by rfl) T.z_isinstance PyProof.Rows.boot_isinstance (pa_cons (pv 4) (pa_cons (pe_bltn (v := .ty "bool") rfl T.z_bool PyProof.Rows.boot_bool rfl) pa_nil)))) (pw_or1 (pt_cmpR op_ne (pv 4) (pv 5) (nomark _)))))) (pss_one (ps_ret pe_bl))
                pss_nil)))))))))))
      (pss_one (ps_ret pe_bl))))), ?_⟩
    refine ⟨_, rfl, (by show 1 ≤ sizeLine; decide), fun l hnl => ?_⟩
    refine ⟨_, rfl, (by show 1 ≤ sizeLine; decide), fun r hnr => ?_⟩
    have lr : l ≠ r := ne_of_none upd_same hnr
    have nr : H r = none := by rw [upd_ne lr.symm] at hnr; exact hnr
    refine ⟨fun m σ H2 => ∃ (xs ys : List V) (o o' : Option V), σ = [some v, some u, some (.ref l), some (.ref r), o, o'] ∧ Same H H2 ∧ H2 l = some (.lst xs) ∧ H2 r = some (.lst ys) ∧ Goes H m xs ys ∧ m ≤ 100000,
      ⟨n, [v], [u], none, none, rfl, (Same.new hnl).upd nr, by rw [upd_ne lr]; exact upd_same, upd_same, hg, hn⟩, ?_⟩
    rintro m σ H2 ⟨xs, ys, o, o', rfl, s2, e1, e2, g, hm⟩
    refine ⟨_, rfl, Nat.zero_le _, fun q hq => ⟨r, q, ys, rfl, rfl, SqL.of (by rw [upd_ne (ne_of_none e2 hq)]; exact e2), SqL.of upd_same, _, rfl, ?_⟩⟩
    have s3 : Same H (upd H2 q (.lst [])) := s2.upd (s2.free hq)
    have f1 : (upd H2 q (.lst [])) l = some (.lst xs) := by rw [upd_ne (ne_of_none e1 hq)]; exact e1
    have f2 : (upd H2 q (.lst [])) r = some (.lst ys) := by rw [upd_ne (ne_of_none e2 hq)]; exact e2
    generalize upd H2 q (.lst []) = H3 at s3 f1 f2 ⊢
    clear e1 e2 s2 hq
    cases g with
    | nil =>
      refine iteF ?_
      exact k H3 s3
    | @int n' xs ys i g =>
      refine ite2 (fun _ => ?_) (fun z => absurd (by simp) z)
      refine ⟨fun σ' H' => ∃ (o o' : Option V), σ' = [some v, some u, some (.ref l), some (.ref r), o, o'] ∧ Same H H' ∧ H' l = some (.lst xs) ∧ H' r = some (.lst ys),
        fun σ' H' ⟨o, o', a1, a2, a3, a4⟩ => ⟨n', Nat.lt_succ_self _, xs, ys, o, o', a1, a2, a3, a4, g, by omega⟩, ?_⟩
      refine ⟨_, rfl, .inl ⟨rfl, _, SqL.of f1⟩, l, _, _, rfl, rfl, f1, last_at xs _, ?_⟩
      have f3 : (upd H3 l (.lst (xs ++ [V.int i]).dropLast)) r = some (.lst (ys ++ [.int i])) := by rw [upd_ne lr.symm]; exact f2
      refine ⟨_, rfl, .inl ⟨rfl, _, SqL.of f3⟩, r, _, _, rfl, rfl, f3, last_at ys _, ?_⟩
      obtain ⟨H5, e5⟩ : ∃ H5, H5 = upd (upd H3 l (.lst (xs ++ [V.int i]).dropLast)) r (.lst (ys ++ [V.int i]).dropLast) := ⟨_, rfl⟩
      have s5 : Same H H5 := by rw [e5]; exact (s3.upd hnl).upd nr
      have g1 : H5 l = some (.lst xs) := by rw [e5, upd_ne lr, upd_same, List.dropLast_concat]
      have g2 : H5 r = some (.lst ys) := by rw [e5, upd_same, List.dropLast_concat]
      rw [← e5]
      clear e5
      refine ⟨_, rfl, (by show 2 ≤ sizeLine; decide), fun tq htq => ⟨_, _, tq, _, _, _, rfl, SqT.of upd_same, TyOf.int i, kitA_i, _, rfl, ?_⟩⟩
      refine iteF ?_
      refine ⟨_, rfl, _, _, _, _, rfl, TyOf.int i, kit_is, _, rfl, ?_⟩
      refine iteF ?_
      refine ⟨_, rfl, _, rfl, ?_⟩
      refine iteDn (by intro z; cases z) ?_
      refine ⟨_, rfl, _, _, _, _, rfl, TyOf.int i, kit_ii, _, rfl, ?_⟩
      refine iteF ?_
      refine ⟨_, rfl, _, _, _, _, rfl, TyOf.int i, kit_ib, _, rfl, ?_⟩
      refine iteF ?_
      refine ⟨_, rfl, _, rfl, rfl, _, rfl, ?_⟩
      refine iteNS rfl ?_
      exact ⟨_, _, rfl, s5.upd (s5.free htq), by rw [upd_ne (ne_of_none g1 htq)]; exact g1, by rw [upd_ne (ne_of_none g2 htq)]; exact g2⟩
    | @str n' xs ys i g =>
      refine ite2 (fun _ => ?_) (fun z => absurd (by simp) z)
      refine ⟨fun σ' H' => ∃ (o o' : Option V), σ' = [some v, some u, some (.ref l), some (.ref r), o, o'] ∧ Same H H' ∧ H' l = some (.lst xs) ∧ H' r = some (.lst ys),
        fun σ' H' ⟨o, o', a1, a2, a3, a4⟩ => ⟨n', Nat.lt_succ_self _, xs, ys, o, o', a1, a2, a3, a4, g, by omega⟩, ?_⟩
      refine ⟨_, rfl, .inl ⟨rfl, _, SqL.of f1⟩, l, _, _, rfl, rfl, f1, last_at xs _, ?_⟩
      have f3 : (upd H3 l (.lst (xs ++ [V.str i]).dropLast)) r = some (.lst (ys ++ [.str i])) := by rw [upd_ne lr.symm]; exact f2
      refine ⟨_, rfl, .inl ⟨rfl, _, SqL.of f3⟩, r, _, _, rfl, rfl, f3, last_at ys _, ?_⟩
      obtain ⟨H5, e5⟩ : ∃ H5, H5 = upd (upd H3 l (.lst (xs ++ [V.str i]).dropLast)) r (.lst (ys ++ [V.str i]).dropLast) := ⟨_, rfl⟩
      have s5 : Same H H5 := by rw [e5]; exact (s3.upd hnl).upd nr
      have g1 : H5 l = some (.lst xs) := by rw [e5, upd_ne lr, upd_same, List.dropLast_concat]
      have g2 : H5 r = some (.lst ys) := by rw [e5, upd_same, List.dropLast_concat]
      rw [← e5]
      clear e5
      refine ⟨_, rfl, (by show 2 ≤ sizeLine; decide), fun tq htq => ⟨_, _, tq, _, _, _, rfl, SqT.of upd_same, TyOf.str i, kitA_s, _, rfl, ?_⟩⟩
      refine iteF ?_
      refine ⟨_, rfl, _, _, _, _, rfl, TyOf.str i, kit_ss, _, rfl, ?_⟩
      refine iteT ?_
      refine ⟨_, rfl, _, _, _, _, rfl, TyOf.str i, kit_ss, _, rfl, ?_⟩
      refine iteF ?_
      refine ⟨_, rfl, _, rfl, rfl, _, rfl, ?_⟩
      refine iteNS rfl ?_
      exact ⟨_, _, rfl, s5.upd (s5.free htq), by rw [upd_ne (ne_of_none g1 htq)]; exact g1, by rw [upd_ne (ne_of_none g2 htq)]; exact g2⟩
    | @lst n' xs ys as bs a b ha hb hl g =>
      have gl := g.len
      rw [List.length_append, List.length_append] at gl
      refine ite2 (fun _ => ?_) (fun z => absurd (by simp) z)
      refine ⟨fun σ' H' => ∃ (o o' : Option V), σ' = [some v, some u, some (.ref l), some (.ref r), o, o'] ∧ Same H H' ∧ H' l = some (.lst (xs ++ as)) ∧ H' r = some (.lst (ys ++ bs)),
        fun σ' H' ⟨o, o', a1, a2, a3, a4⟩ => ⟨n', Nat.lt_succ_self _, xs ++ as, ys ++ bs, o, o', a1, a2, a3, a4, g, by omega⟩, ?_⟩
      refine ⟨_, rfl, .inl ⟨rfl, _, SqL.of f1⟩, l, _, _, rfl, rfl, f1, last_at xs _, ?_⟩
      have f3 : (upd H3 l (.lst (xs ++ [V.ref a]).dropLast)) r = some (.lst (ys ++ [.ref b])) := by rw [upd_ne lr.symm]; exact f2
      refine ⟨_, rfl, .inl ⟨rfl, _, SqL.of f3⟩, r, _, _, rfl, rfl, f3, last_at ys _, ?_⟩
      obtain ⟨H5, e5⟩ : ∃ H5, H5 = upd (upd H3 l (.lst (xs ++ [V.ref a]).dropLast)) r (.lst (ys ++ [V.ref b]).dropLast) := ⟨_, rfl⟩
      have s5 : Same H H5 := by rw [e5]; exact (s3.upd hnl).upd nr
      have g1 : H5 l = some (.lst xs) := by rw [e5, upd_ne lr, upd_same, List.dropLast_concat]
      have g2 : H5 r = some (.lst ys) := by rw [e5, upd_same, List.dropLast_concat]
      rw [← e5]
      clear e5
      refine ⟨_, rfl, (by show 2 ≤ sizeLine; decide), fun tq htq => ⟨_, _, tq, _, _, _, rfl, SqT.of upd_same, TyOf.lst (show _ = some (HO.lst bs) from (s5.upd (s5.free htq)) _ _ hb), kitA_l, _, rfl, ?_⟩⟩
      have s6 : Same H (upd H5 tq (.tup [.ty "list", .ty "tuple"])) := s5.upd (s5.free htq)
      have i1 : (upd H5 tq (.tup [.ty "list", .ty "tuple"])) l = some (.lst xs) := by rw [upd_ne (ne_of_none g1 htq)]; exact g1
      have i2 : (upd H5 tq (.tup [.ty "list", .ty "tuple"])) r = some (.lst ys) := by rw [upd_ne (ne_of_none g2 htq)]; exact g2
      generalize upd H5 tq (.tup [.ty "list", .ty "tuple"]) = H6 at s6 i1 i2 ⊢
      refine iteT ?_
      refine ⟨_, rfl, _, _, _, _, rfl, TyOf.lst (s6 _ _ ha), kit_ll, _, rfl, _, _, _, _, rfl, TyOf.lst (s6 _ _ hb), kit_ll, rfl, _, rfl, ?_⟩
      refine iteNS rfl ?_
      refine ⟨_, rfl, _, _, _, _, rfl, TyOf.lst (s6 _ _ ha), kit_lt, _, rfl, _, _, _, _, rfl, TyOf.lst (s6 _ _ hb), kit_lt, rfl, _, rfl, ?_⟩
      refine iteNS rfl ?_
      refine ⟨_, rfl, a, _, rfl, .inl (SqL.of (s6 _ _ ha)), _, rfl, b, _, rfl, .inl (SqL.of (s6 _ _ hb)), rfl, _, rfl, ?_⟩
      refine iteNS (by rw [hl]) ?_
      refine ⟨_, rfl, .inl ⟨rfl, _, SqL.of i1⟩, _, rfl, a, _, rfl, .inl (SqL.of (s6 _ _ ha)), fun q1 hq1 => ⟨l, q1, _, _, rfl, rfl, (by rw [upd_ne (ne_of_none i1 hq1)]; exact i1), upd_same, big (by omega), ?_⟩⟩
      have s7 : Same H (upd (upd H6 q1 (.lst as)) l (.lst (xs ++ as))) := (s6.upd (s6.free hq1)).upd hnl
      have j1 : (upd (upd H6 q1 (.lst as)) l (.lst (xs ++ as))) l = some (.lst (xs ++ as)) := upd_same
      have j2 : (upd (upd H6 q1 (.lst as)) l (.lst (xs ++ as))) r = some (.lst ys) := by rw [upd_ne lr.symm, upd_ne (ne_of_none i2 hq1)]; exact i2
      generalize upd (upd H6 q1 (.lst as)) l (.lst (xs ++ as)) = H7 at s7 j1 j2 ⊢
      refine ⟨_, rfl, .inl ⟨rfl, _, SqL.of j2⟩, _, rfl, b, _, rfl, .inl (SqL.of (s7 _ _ hb)), fun q2 hq2 => ⟨r, q2, _, _, rfl, rfl, (by rw [upd_ne (ne_of_none j2 hq2)]; exact j2), upd_same, big (by omega), ?_⟩⟩
      exact ⟨_, _, rfl, (s7.upd (s7.free hq2)).upd nr, by rw [upd_ne lr, upd_ne (ne_of_none j1 hq2)]; exact j1, upd_same⟩
    | @tup n' xs ys as bs a b ha hb hl g =>
      have gl := g.len
      rw [List.length_append, List.length_append] at gl
      refine ite2 (fun _ => ?_) (fun z => absurd (by simp) z)
      refine ⟨fun σ' H' => ∃ (o o' : Option V), σ' = [some v, some u, some (.ref l), some (.ref r), o, o'] ∧ Same H H' ∧ H' l = some (.lst (xs ++ as)) ∧ H' r = some (.lst (ys ++ bs)),
        fun σ' H' ⟨o, o', a1, a2, a3, a4⟩ => ⟨n', Nat.lt_succ_self _, xs ++ as, ys ++ bs, o, o', a1, a2, a3, a4, g, by omega⟩, ?_⟩
      refine ⟨_, rfl, .inl ⟨rfl, _, SqL.of f1⟩, l, _, _, rfl, rfl, f1, last_at xs _, ?_⟩
      have f3 : (upd H3 l (.lst (xs ++ [V.ref a]).dropLast)) r = some (.lst (ys ++ [.ref b])) := by rw [upd_ne lr.symm]; exact f2
      refine ⟨_, rfl, .inl ⟨rfl, _, SqL.of f3⟩, r, _, _, rfl, rfl, f3, last_at ys _, ?_⟩
      obtain ⟨H5, e5⟩ : ∃ H5, H5 = upd (upd H3 l (.lst (xs ++ [V.ref a]).dropLast)) r (.lst (ys ++ [V.ref b]).dropLast) := ⟨_, rfl⟩
      have s5 : Same H H5 := by rw [e5]; exact (s3.upd hnl).upd nr
      have g1 : H5 l = some (.lst xs) := by rw [e5, upd_ne lr, upd_same, List.dropLast_concat]
      have g2 : H5 r = some (.lst ys) := by rw [e5, upd_same, List.dropLast_concat]
      rw [← e5]
      clear e5
      refine ⟨_, rfl, (by show 2 ≤ sizeLine; decide), fun tq htq => ⟨_, _, tq, _, _, _, rfl, SqT.of upd_same, TyOf.tup (show _ = some (HO.tup bs) from (s5.upd (s5.free htq)) _ _ hb), kitA_t, _, rfl, ?_⟩⟩
      have s6 : Same H (upd H5 tq (.tup [.ty "list", .ty "tuple"])) := s5.upd (s5.free htq)
      have i1 : (upd H5 tq (.tup [.ty "list", .ty "tuple"])) l = some (.lst xs) := by rw [upd_ne (ne_of_none g1 htq)]; exact g1
      have i2 : (upd H5 tq (.tup [.ty "list", .ty "tuple"])) r = some (.lst ys) := by rw [upd_ne (ne_of_none g2 htq)]; exact g2
      generalize upd H5 tq (.tup [.ty "list", .ty "tuple"]) = H6 at s6 i1 i2 ⊢
      refine iteT ?_
      refine ⟨_, rfl, _, _, _, _, rfl, TyOf.tup (s6 _ _ ha), kit_tl, _, rfl, _, _, _, _, rfl, TyOf.tup (s6 _ _ hb), kit_tl, rfl, _, rfl, ?_⟩
      refine iteNS rfl ?_
      refine ⟨_, rfl, _, _, _, _, rfl, TyOf.tup (s6 _ _ ha), kit_tt, _, rfl, _, _, _, _, rfl, TyOf.tup (s6 _ _ hb), kit_tt, rfl, _, rfl, ?_⟩
      refine iteNS rfl ?_
      refine ⟨_, rfl, a, _, rfl, .inr (SqT.of (s6 _ _ ha)), _, rfl, b, _, rfl, .inr (SqT.of (s6 _ _ hb)), rfl, _, rfl, ?_⟩
      refine iteNS (by rw [hl]) ?_
      refine ⟨_, rfl, .inl ⟨rfl, _, SqL.of i1⟩, _, rfl, a, _, rfl, .inr (SqT.of (s6 _ _ ha)), fun q1 hq1 => ⟨l, q1, _, _, rfl, rfl, (by rw [upd_ne (ne_of_none i1 hq1)]; exact i1), upd_same, big (by omega), ?_⟩⟩
      have s7 : Same H (upd (upd H6 q1 (.lst as)) l (.lst (xs ++ as))) := (s6.upd (s6.free hq1)).upd hnl
      have j1 : (upd (upd H6 q1 (.lst as)) l (.lst (xs ++ as))) l = some (.lst (xs ++ as)) := upd_same
      have j2 : (upd (upd H6 q1 (.lst as)) l (.lst (xs ++ as))) r = some (.lst ys) := by rw [upd_ne lr.symm, upd_ne (ne_of_none i2 hq1)]; exact i2
      generalize upd (upd H6 q1 (.lst as)) l (.lst (xs ++ as)) = H7 at s7 j1 j2 ⊢
      refine ⟨_, rfl, .inl ⟨rfl, _, SqL.of j2⟩, _, rfl, b, _, rfl, .inr (SqT.of (s7 _ _ hb)), fun q2 hq2 => ⟨r, q2, _, _, rfl, rfl, (by rw [upd_ne (ne_of_none j2 hq2)]; exact j2), upd_same, big (by omega), ?_⟩⟩
      exact ⟨_, _, rfl, (s7.upd (s7.free hq2)).upd nr, by rw [upd_ne lr, upd_ne (ne_of_none j1 hq2)]; exact j1, upd_same⟩
end
end PN
namespace PN
open PySem L2
def sp_are_posts : Sp := fun vs H Q _ => ∃ (a : Addr) (ps : List Post), vs = [.ref a] ∧ Posts H a ps ∧ Q (.bl true) H
section
variable {P : Program} {w : World} {K : PySem.W.Frag} {mg : Str → Option Value} {base : Heap} {t : Adr}
theorem ok__law_are_posts (T : Txt K mg t) : FnOk P w K mg base CX0 2 t.a__law_are_posts t.fd__law_are_posts ["_law_found"] sp_are_posts := by
  have G__law_whole : FnOk P w K mg base CX0 1 t.a__law_whole t.fd__law_whole ["_law_found"] sp_whole := ok__law_whole T
  refine T.F__law_are_posts.ok sc__law_are_posts (fun vs H Q E h => ?_) (fun cdv A outer s H vs Q E hr h => ?_)
  · obtain ⟨a, ps, rfl, _⟩ := h
    rfl
  · obtain ⟨a, ps, rfl, ⟨rs, ha, ht⟩, k⟩ := h
    have hr__law_whole := hr
    refine ⟨_, (pss_cons (ps_if (pt_not (pt_val (pe_callB call_isi (by rfl) T.z_isinstance PyProof.Rows.boot_isinstance (pa_cons (pv 0) (pa_cons (pe_bltn (v := .ty "list") rfl T.z_list PyProof.Rows.boot_list rfl) pa_nil))))) (pss_one (ps_ret pe_bl))
        pss_nil)
      (pss_cons (ps_for PassesOwn.never rfl (pi_list (pv 0)) (pg_name (i := 1) sc__law_are_posts.nd rfl (Or.inl rfl))
        (pss_cons (ps_if (PW.pt (pw_or (pt_not (pt_val (pe_callB call_isi (by rfl) T.z_isinstance PyProof.Rows.boot_isinstance (pa_cons (pv 1) (pa_cons (pe_bltn (v := .ty "tuple") rfl T.z_tuple PyProof.Rows.boot_tuple rfl) pa_nil))))) (pw_or1 (pt_cmpR op_ne (pe_callB call_len_seq (by rfl) T.z_len PySem.boot_len (pa_cons (pv 1) pa_nil)) pe_int (nomark _))))) (pss_one (ps_ret pe_bl))
          pss_nil)
        (pss_one (ps_if (PW.pt (pw_or (pt_not (pt_val (pe_call G__law_whole hr__law_whole rfl T.m__law_whole T.F__law_whole.kp T.b__law_whole .nil pass0 (pa_cons (pe_ix ix_tup (pv 1) pe_int (fun _ _ => rfl)) pa_nil)))) (pw_or1 (pt_not (pt_val (pe_call G__law_whole hr__law_whole rfl T.m__law_whole T.F__law_whole.kp T.b__law_whole .nil pass0 (pa_cons (pe_ix ix_tup (pv 1) pe_int (fun _ _ => rfl)) pa_nil))))))) (pss_one (ps_ret pe_bl))
          pss_nil))))
      (pss_one (ps_ret pe_bl)))), ?_⟩
    refine ⟨_, rfl, _, _, _, _, rfl, TyOf.lst ha, kit_ll, _, rfl, ?_⟩
    refine iteF ?_
    refine ⟨_, rfl, a, rfl, ⟨_, SqL.of ha⟩, for_list (K := K) (a := a) (xs := rs.map V.ref) (fun i σ H2 => ∃ u : Option V, σ = [some (.ref a), u] ∧ H2 = H) ⟨none, rfl, rfl⟩ (fun i σ H2 _ ⟨_, _, e⟩ => by rw [e]; exact SqL.of ha) ?_ ?_⟩
    · rintro i x σ H2 hi ⟨u, rfl, rfl⟩
      obtain ⟨r, hr', rfl⟩ := map_get hi
      obtain ⟨p, hp, er⟩ := ht.get hr'
      refine ⟨_, rfl, _, _, _, _, rfl, TyOf.tup er, kit_tt, _, rfl, ?_⟩
      refine iteF ?_
      refine ⟨_, rfl, r, _, rfl, .inr (SqT.of er), rfl, _, rfl, ?_⟩
      refine iteNS rfl ?_
      refine ⟨_, rfl, r, _, _, _, rfl, rfl, SqT.of er, atI_nat (j := 0) rfl, _, rfl, _, rfl, ?_⟩
      refine iteF ?_
      refine ⟨_, rfl, r, _, _, _, rfl, rfl, SqT.of er, atI_nat (j := 1) rfl, _, rfl, _, rfl, ?_⟩
      refine iteF ?_
      exact ⟨_, rfl, rfl⟩
    · rintro σ H2 ⟨u, rfl, rfl⟩
      exact k
end
end PN
namespace PN
open PySem L2
def numsI (ps : List Post) (n : Nat) : List Int := (List.range n).map fun i => ((numAt ps i : Nat) : Int)
theorem numsI_succ (ps : List Post) (n : Nat) : numsI ps (n + 1) = numsI ps n ++ [((numAt ps n : Nat) : Int)] := by
  unfold numsI
  rw [List.range_succ, List.map_append]
  rfl
theorem numsI_length (ps : List Post) (n : Nat) : (numsI ps n).length = n := by
  unfold numsI
  rw [List.length_map, List.length_range]
theorem numsI_get {ps : List Post} {n i : Nat} (h : i < n) : (numsI ps n)[i]? = some ((numAt ps i : Nat) : Int) := by
  unfold numsI
  rw [List.getElem?_map, List.getElem?_range h]
  rfl
/-- lists of posts at addresses -/
def LayPosts (H : Hp) (qs : List Addr) (Ls : List (List Post)) : Prop := qs.length = Ls.length ∧ ∀ (k : Nat) q L, qs[k]? = some q → Ls[k]? = some L → Posts H q L
theorem LayPosts.mono {H H' : Hp} {qs : List Addr} {Ls : List (List Post)} (h : LayPosts H qs Ls) (s : Same H H') : LayPosts H' qs Ls := ⟨h.1, fun k q L a b => (h.2 k q L a b).mono s⟩
theorem LayPosts.snoc {H : Hp} {qs : List Addr} {Ls : List (List Post)} {q : Addr} {L : List Post} (h : LayPosts H qs Ls) (p : Posts H q L) : LayPosts H (qs ++ [q]) (Ls ++ [L]) := by
  refine ⟨by rw [List.length_append, List.length_append, h.1]; rfl, fun k q' L' a b => ?_⟩
  rw [List.getElem?_append] at a b
  by_cases c : k < qs.length
  · rw [if_pos c] at a
    rw [if_pos (h.1 ▸ c)] at b
    exact h.2 k q' L' a b
  · rw [if_neg c] at a
    rw [if_neg (h.1 ▸ c), ← h.1] at b
    match k - qs.length, a, b with
    | 0, a, b =>
      cases a
      cases b
      exact p
    | n + 1, a, b => simp at a
theorem Posts.keepL {H : Hp} {q b : Addr} {L : List Post} {o o' : List V} (h : Posts H q L) (e : H b = some (.lst o)) (ne : q ≠ b) : Posts (upd H b (.lst o')) q L := by
  obtain ⟨rs, er, t⟩ := h
  exact ⟨rs, by rw [upd_ne ne]; exact er, t.keep (tup_keep e)⟩
def sp_layer_numbers : Sp := fun vs H Q _ => ∃ (a : Addr) (ps : List Post), vs = [.ref a] ∧ Posts H a ps ∧ ps.length ≤ 500 ∧ ∀ l H', Same H H' → H l = none → Ints H' l (numsI ps ps.length) → Q (.ref l) H'
def sp_layers : Sp := fun vs H Q _ => ∃ (w : Int) (a : Addr) (ps : List Post), vs = [.int w, .ref a] ∧ Posts H a ps ∧ 1 ≤ w ∧ Net w.toNat ps ∧ ps.length < 64 ∧
  ∀ l qs Ls H', Same H H' → H l = none → H' l = some (.lst (qs.map V.ref)) → LayPosts H' qs Ls → LayersOf ps Ls → (∀ L ∈ Ls, L.Pairwise leP) → Q (.ref l) H'
section
variable {P : Program} {w : World} {K : PySem.W.Frag} {mg : Str → Option Value} {base : Heap} {t : Adr}
theorem ok_layer_numbers (T : Txt K mg t) : FnOk P w K mg base CX0 1 t.a_layer_numbers t.fd_layer_numbers ["posts"] sp_layer_numbers := by
  refine T.F_layer_numbers.ok sc_layer_numbers (fun vs H Q E h => ?_) (fun cdv A outer s H vs Q E hr h => ?_)
  · obtain ⟨a, ps, rfl, _⟩ := h
    rfl
  · obtain ⟨a, ps, rfl, hP, hpl, k⟩ := h
    have hu := hu_of hr
    refine ⟨_, (pss_cons (ps_set (i := 1) sc_layer_numbers.nd rfl (Or.inl rfl) pe_dnewK)
      (pss_cons (ps_set (i := 2) sc_layer_numbers.nd rfl (Or.inl rfl) (pe_lst pa_nil))
      (pss_cons (ps_for PassesOwn.never rfl (pi_list (pv 0)) (pg_tup rfl (pgs_cons (pg_name (i := 3) sc_layer_numbers.nd rfl (Or.inl rfl)) (pgs_cons (pg_name (i := 4) sc_layer_numbers.nd rfl (Or.inl rfl)) pgs_nil)))
        (pss_cons (ps_set (i := 5) sc_layer_numbers.nd rfl (Or.inl rfl) (pe_callB (call_max2 rfl) (by rfl) T.z_max PyProof.Rows.boot_max (pa_cons (pe_dget2 hu (pv 1) (pv 3) pe_int ⟨rfl, rfl, rfl, rfl⟩) (pa_cons (pe_dget2 hu (pv 1) (pv 4) pe_int ⟨rfl, rfl, rfl, rfl⟩) pa_nil))))
        (pss_cons (ps_dput hu (pv 1) (pv 3) (pe_op op_add (pv 5) pe_int) rfl)
        (pss_cons (ps_dput hu (pv 1) (pv 4) (pe_op op_add (pv 5) pe_int) rfl)
        (pss_one (ps_expr (pe_bm PySem.F.plainAttrs_list PySem.F.slot_list_append PySem.F.type_list_append mt_append (pv 2) (pa_cons (pv 5) pa_nil))))))))
      (pss_one (ps_ret (pv 2)))))), ?_⟩
    intro d hd
    refine ⟨Nat.zero_le _, fun nl hnl => ?_⟩
    have S0 : Same H (upd (upd H d (.dK [])) nl (.lst [])) := (Same.new hd).trans (Same.new hnl)
    have ndn : d ≠ nl := fun z => by rw [← z, upd_same] at hnl; cases hnl
    have nnl : H nl = none := (Same.new (o := .dK []) hd).free hnl
    obtain ⟨rs, ha, ht⟩ := id hP
    have hrl := ht.1
    refine ⟨_, rfl, a, rfl, ⟨_, SqL.of (S0 _ _ ha)⟩, for_list (K := K) (a := a) (xs := rs.map V.ref) (fun i σ Hi => ∃ (u3 u4 u5 : Option V) (kvs : List (Key × V)), σ = [some (.ref a), some (.ref d), some (.ref nl), u3, u4, u5] ∧ Same H Hi ∧ Hi d = some (.dK kvs) ∧ kvs.length ≤ 2 * i ∧ (∀ l : Nat, (valV kvs (Sum.inl (l : Int))).getD (.int 0) = .int ((lanesAt (ps.take i) l : Nat) : Int)) ∧ Ints Hi nl (numsI ps i))
      ⟨none, none, none, [], rfl, S0, by rw [upd_ne ndn, upd_same], Nat.le_refl _, fun l => rfl, upd_same⟩ (fun i σ Hi _ ⟨_, _, _, _, _, si, _⟩ => SqL.of (si _ _ ha)) ?_ ?_⟩
    · rintro i x σ Hi hi ⟨u3, u4, u5, kvs, rfl, si, ed, hkl, hv, en⟩
      have hil := (List.getElem?_eq_some_iff.mp hi).1
      rw [List.length_map, hrl] at hil
      obtain ⟨r, hr', rfl⟩ := map_get hi
      obtain ⟨p, hp, er⟩ := ht.get hr'
      have hgp := gP_get hp
      have hnum : numAt ps i = laneN (lanesAt (ps.take i)) p := by unfold numAt; rw [hgp]
      refine ⟨r, _, rfl, SqT.of (si _ _ er), rfl, _, _, rfl, _, _, rfl, rfl, ?_⟩
      refine ⟨_, rfl, d, rfl, .inl ⟨kvs, .inl ed⟩, _, rfl, _, DGet.k (k := Sum.inl ((p.1 : Nat) : Int)) ed, _, rfl, d, rfl, .inl ⟨kvs, .inl ed⟩, _, rfl, _, DGet.k (k := Sum.inl ((p.2 : Nat) : Int)) ed, ((lanesAt (ps.take i) p.1 : Nat) : Int), ((lanesAt (ps.take i) p.2 : Nat) : Int), ?_, ?_⟩
      · rw [hv, hv]
      have em : (if ((lanesAt (ps.take i) p.2 : Nat) : Int) > ((lanesAt (ps.take i) p.1 : Nat) : Int) then ((lanesAt (ps.take i) p.2 : Nat) : Int) else ((lanesAt (ps.take i) p.1 : Nat) : Int)) = ((numAt ps i : Nat) : Int) := by
        rw [hnum]
        unfold laneN
        split <;> omega
      dsimp only [gName]
      rw [em]
      have l1 := length_putK kvs (Sum.inl ((p.1 : Nat) : Int)) (.int (((numAt ps i : Nat) : Int) + 1))
      have l2 := length_putK (putK kvs (Sum.inl ((p.1 : Nat) : Int)) (.int (((numAt ps i : Nat) : Int) + 1))) (Sum.inl ((p.2 : Nat) : Int)) (.int (((numAt ps i : Nat) : Int) + 1))
      refine ⟨_, rfl, _, _, rfl, rfl, _, rfl, _, rfl, d, _, rfl, DPut.k (k := Sum.inl ((p.1 : Nat) : Int)) ed (big' (by omega)), ?_⟩
      refine ⟨_, rfl, _, _, rfl, rfl, _, rfl, _, rfl, d, _, rfl, DPut.k (kvs := putK kvs (Sum.inl ((p.1 : Nat) : Int)) (.int (((numAt ps i : Nat) : Int) + 1))) (k := Sum.inl ((p.2 : Nat) : Int)) upd_same (big' (by omega)), ?_⟩
      have S2 : Same H (upd (upd Hi d (.dK (putK kvs (Sum.inl ((p.1 : Nat) : Int)) (.int (((numAt ps i : Nat) : Int) + 1))))) d (.dK (putK (putK kvs (Sum.inl ((p.1 : Nat) : Int)) (.int (((numAt ps i : Nat) : Int) + 1))) (Sum.inl ((p.2 : Nat) : Int)) (.int (((numAt ps i : Nat) : Int) + 1))))) := (si.upd hd).upd hd
      have en2 : (upd (upd Hi d (.dK (putK kvs (Sum.inl ((p.1 : Nat) : Int)) (.int (((numAt ps i : Nat) : Int) + 1))))) d (.dK (putK (putK kvs (Sum.inl ((p.1 : Nat) : Int)) (.int (((numAt ps i : Nat) : Int) + 1))) (Sum.inl ((p.2 : Nat) : Int)) (.int (((numAt ps i : Nat) : Int) + 1))))) nl = some (.lst ((numsI ps i).map V.int)) := by
        rw [upd_ne ndn.symm, upd_ne ndn.symm]
        exact en
      refine ⟨_, rfl, .inl ⟨rfl, _, SqL.of en2⟩, _, rfl, nl, _, _, rfl, rfl, en2, big' (by rw [List.length_map, numsI_length]; omega), ?_⟩
      refine ⟨_, _, _, putK (putK kvs (Sum.inl ((p.1 : Nat) : Int)) (.int (((numAt ps i : Nat) : Int) + 1))) (Sum.inl ((p.2 : Nat) : Int)) (.int (((numAt ps i : Nat) : Int) + 1)), rfl, S2.upd nnl, by rw [upd_ne ndn, upd_same], by omega, fun l => ?_, ?_⟩
      · rw [lanesAt_take hil, hgp, valV_put, valV_put]
        unfold behind
        rw [← hnum]
        by_cases c2 : l = p.2
        · subst c2
          rw [if_pos rfl, if_pos rfl]
          show V.int (((numAt ps i : Nat) : Int) + 1) = _
          congr 1
        · have n2 : ¬ (Sum.inl (l : Int) : Key) = Sum.inl ((p.2 : Nat) : Int) := fun z => c2 (by have := Sum.inl.inj z; omega)
          rw [if_neg n2, if_neg c2]
          by_cases c1 : l = p.1
          · subst c1
            rw [if_pos rfl, if_pos rfl]
            show V.int (((numAt ps i : Nat) : Int) + 1) = _
            congr 1
          · have n1 : ¬ (Sum.inl (l : Int) : Key) = Sum.inl ((p.1 : Nat) : Int) := fun z => c1 (by have := Sum.inl.inj z; omega)
            rw [if_neg n1, if_neg c1]
            exact hv l
      · show _ = _
        rw [upd_same, numsI_succ, List.map_append]
        rfl
    · rintro σ Hi ⟨u3, u4, u5, kvs, rfl, si, ed, hkl, hv, en⟩
      rw [List.length_map, hrl] at en
      exact ⟨_, rfl, k nl Hi si nnl en⟩
theorem ok_layers (T : Txt K mg t) : FnOk P w K mg base CX0 2 t.a_layers t.fd_layers ["width", "posts"] sp_layers := by
  have G_check_net : FnOk P w K mg base CX0 1 t.a_check_net t.fd_check_net ["width", "posts"] sp_check_net := ok_check_net T
  have G_layer_numbers : FnOk P w K mg base CX0 1 t.a_layer_numbers t.fd_layer_numbers ["posts"] sp_layer_numbers := ok_layer_numbers T
  refine T.F_layers.ok sc_layers (fun vs H Q E h => ?_) (fun cdv A outer s H vs Q E hr h => ?_)
  · obtain ⟨w, a, ps, rfl, _⟩ := h
    rfl
  · obtain ⟨w, a, ps, rfl, hP, h1, hn, hpl, k⟩ := h
    have hr_check_net := hr
    have hr_layer_numbers := hr
    refine ⟨_, (pss_cons (ps_expr (pe_call G_check_net hr_check_net rfl T.m_check_net T.F_check_net.kp T.b_check_net .nil pass0 (pa_cons (pv 0) (pa_cons (pv 1) pa_nil))))
      (pss_cons (ps_set (i := 2) sc_layers.nd rfl (Or.inl rfl) (pe_lst pa_nil))
      (pss_cons (ps_for PassesOwn.never rfl (pi_zip rfl T.z_zip (pa_cons (pv 1) (pa_cons (pe_call G_layer_numbers hr_layer_numbers rfl T.m_layer_numbers T.F_layer_numbers.kp T.b_layer_numbers .nil pass0 (pa_cons (pv 1) pa_nil)) pa_nil))) (pg_tup rfl (pgs_cons (pg_name (i := 3) sc_layers.nd rfl (Or.inl rfl)) (pgs_cons (pg_name (i := 4) sc_layers.nd rfl (Or.inl rfl)) pgs_nil)))
        (pss_cons (ps_if (pt_cmpR op_eq (pv 4) (pe_callB call_len_seq (by rfl) T.z_len PySem.boot_len (pa_cons (pv 2) pa_nil)) (nomark _)) (pss_one (ps_expr (pe_bm PySem.F.plainAttrs_list PySem.F.slot_list_append PySem.F.type_list_append mt_append (pv 2) (pa_cons (pe_lst pa_nil) pa_nil))))
          pss_nil)
        (pss_one (ps_expr (pe_bm PySem.F.plainAttrs_list PySem.F.slot_list_append PySem.F.type_list_append mt_append (pe_ix ix_list (pv 2) (pv 4) (fun _ _ => rfl)) (pa_cons (pv 3) pa_nil))))))
      (pss_one (ps_ret (pe_lc rfl rfl (pi_list (pv 2)) (by rfl) (LcFree.nil (N := ["layer"]) [(".0", .local), ("layer", .local), ("sorted", .globalImplicit)] rfl rfl (by decide +kernel)) rfl (by decide +kernel) (by decide +kernel) (fun _ _ _ _ => (pg_name (i := 0) (show (["layer"] : List Str).Nodup by decide +kernel) rfl (Or.inl rfl))) (fun _ _ _ _ => (pe_callB (call_sortedT (K := K) rfl) (by rfl) T.z_sorted PyProof.Rows.boot_sorted (pa_cons (pv 0) pa_nil))))))))), ?_⟩
    refine ⟨_, rfl, _, rfl, w, a, ps, rfl, hP, h1, hn, fun H0 s0 => ?_⟩
    refine ⟨Nat.zero_le _, fun fo hfo => ?_⟩
    have S1 := s0.trans (Same.new (o := .lst []) hfo)
    have nfo : H fo = none := s0.free hfo
    refine ⟨_, rfl, _, rfl, a, ps, rfl, hP.mono S1, by omega, fun nl H1 s1 n1 en => ?_⟩
    have S01 := S1.trans s1
    have efo : H1 fo = some (.lst []) := s1 _ _ upd_same
    have nnf : nl ≠ fo := fun z => by rw [z, upd_same] at n1; cases n1
    obtain ⟨rs, ha, ht⟩ := id (hP.mono S01)
    have hrl := ht.1
    have naf : a ≠ fo := fun z => by
      obtain ⟨rs', ha', _⟩ := hP
      rw [z, nfo] at ha'
      cases ha'
    -- what the loop leaves alone
    obtain ⟨Hs, hHs⟩ : ∃ Hs : Hp, ∀ b, Hs b = if b = fo then none else H1 b := ⟨_, fun b => rfl⟩
    have Hsf : Hs fo = none := by rw [hHs, if_pos rfl]
    have Hse : ∀ b, b ≠ fo → Hs b = H1 b := fun b nb => by rw [hHs, if_neg nb]
    have Hs1 : Same Hs H1 := fun b o z => by
      by_cases e : b = fo
      · rw [e, Hsf] at z
        cases z
      · rw [Hse b e] at z
        exact z
    have has : Hs a = some (.lst (rs.map V.ref)) := by rw [Hse a naf]; exact ha
    have ens : Hs nl = some (.lst ((numsI ps ps.length).map V.int)) := by rw [Hse nl nnf]; exact en
    have hts : ∀ (i : Nat) r p, rs[i]? = some r → ps[i]? = some p → Hs r = some (.tup [.int (p.1 : Nat), .int (p.2 : Nat)]) := fun i r p e1 e2 => by
      have er := ht.2 i r p e1 e2
      rw [Hse r (fun z => by rw [z, efo] at er; cases er)]
      exact er
    have HsH : Same H Hs := fun b o z => by
      rw [Hse b (fun e => by rw [e, nfo] at z; cases z)]
      exact S01 _ _ z
    refine ⟨a, nl, rfl, ⟨_, SqL.of ha⟩, ⟨_, SqL.of en⟩, for_zip (K := K) (a := a) (b := nl) (xs := rs.map V.ref) (ys := (numsI ps ps.length).map V.int) (fun i σ Hi => ∃ (u3 u4 : Option V) (ls : List Addr), σ = [some (.int w), some (.ref a), some (.ref fo), u3, u4] ∧ Same Hs Hi ∧ Hi fo = some (.lst (ls.map V.ref)) ∧ ls.length = deepTo ps i ∧ ls.Nodup ∧ fo ∉ ls ∧ (∀ l ∈ ls, Hs l = none) ∧ ∀ (k : Nat) l, ls[k]? = some l → Posts Hi l (bucket ps i k))
      (by rw [List.length_map, List.length_map, numsI_length, hrl]) ⟨none, none, [], rfl, Hs1, efo, rfl, List.nodup_nil, by simp, by simp, fun k l z => by simp at z⟩ (fun i σ Hi _ ⟨_, _, _, _, si, _⟩ => ⟨SqL.of (si _ _ has), SqL.of (si _ _ ens)⟩) ?_ ?_⟩
    · rintro i x y q σ Hi hi hy ⟨u3, u4, ls, rfl, si, ef, hll, hnd, hfl, hnew, hB⟩ hq
      have hil := (List.getElem?_eq_some_iff.mp hi).1
      rw [List.length_map, hrl] at hil
      obtain ⟨r, hr', rfl⟩ := map_get hi
      obtain ⟨n, hn', rfl⟩ := map_get hy
      rw [numsI_get hil] at hn'
      cases hn'
      obtain ⟨p, hp, _⟩ := ht.get hr'
      have er := hts i r p hr' hp
      have hgp := gP_get hp
      have Sq := Same.new (o := .tup [.ref r, .int ((numAt ps i : Nat) : Int)]) hq
      have sq := si.trans Sq
      have efq := Sq _ _ ef
      have nqf : q ≠ fo := (ne_of_none ef hq).symm
      have hdi := num_le_deep (ps := ps) hil
      have hdd := deep_le (ps := ps) i (by omega)
      have hdn : deepTo ps (i + 1) = max (deepTo ps i) (numAt ps i + 1) := rfl
      refine ⟨q, _, rfl, SqT.of upd_same, rfl, _, _, rfl, _, _, rfl, rfl, ?_⟩
      generalize upd Hi q (.tup [.ref r, .int ((numAt ps i : Nat) : Int)]) = Hq at Sq sq efq ⊢
      have hBq : ∀ (k : Nat) l, ls[k]? = some l → Posts Hq l (bucket ps i k) := fun k l z => (hB k l z).mono Sq
      refine seq_by (fun σ' Hx => σ' = [some (.int w), some (.ref a), some (.ref fo), some (.ref r), some (.int ((numAt ps i : Nat) : Int))] ∧ ∃ ls' : List Addr, Same Hs Hx ∧ Hx fo = some (.lst (ls'.map V.ref)) ∧ ls'.length = deepTo ps (i + 1) ∧ ls'.Nodup ∧ fo ∉ ls' ∧ (∀ l ∈ ls', Hs l = none) ∧ ∀ (k : Nat) l, ls'[k]? = some l → Posts Hx l (bucket ps i k)) (fun N hN' => ?_) (fun σ' Hx ⟨hσ, ls', sx, ex, hll', hnd', hfl', hnew', hBx⟩ => ?_)
      · refine ⟨_, rfl, _, rfl, fo, _, rfl, .inl (SqL.of efq), rfl, _, rfl, ?_⟩
        by_cases c : numAt ps i = deepTo ps i
        · refine iteD (by rw [List.length_map, hll, c]) ?_
          refine ⟨_, rfl, .inl ⟨rfl, _, SqL.of efq⟩, Nat.zero_le _, fun z hz => ⟨fo, _, _, rfl, rfl, Same.new hz _ _ efq, big' (by rw [List.length_map]; omega), ?_⟩⟩
          have Sz := Same.new (o := .lst []) hz
          have nzf : z ≠ fo := (ne_of_none efq hz).symm
          have nzl : z ∉ ls := fun m => by
            obtain ⟨kk, hk⟩ := List.mem_iff_getElem?.mp m
            obtain ⟨_, e, _⟩ := hBq kk z hk
            rw [hz] at e
            cases e
          refine hN' _ _ ⟨rfl, ls ++ [z], (sq.trans Sz).upd Hsf, ?_, ?_, ?_, ?_, ?_, ?_⟩
          · rw [upd_same, List.map_append]
            rfl
          · rw [List.length_append, hll]
            show _ + 1 = _
            omega
          · rw [List.nodup_append]
            exact ⟨hnd, by simp, fun x hx y hy => by rw [List.mem_singleton] at hy; subst hy; exact fun e => nzl (e ▸ hx)⟩
          · intro m
            rcases List.mem_append.mp m with m | m
            · exact hfl m
            · rw [List.mem_singleton] at m
              exact nzf m.symm
          · intro l m
            rcases List.mem_append.mp m with m | m
            · exact hnew l m
            · rw [List.mem_singleton] at m
              rw [m]
              exact sq.free hz
          · intro kk l hk
            rw [List.getElem?_append] at hk
            by_cases c3 : kk < ls.length
            · rw [if_pos c3] at hk
              exact ((hBq kk l hk).mono Sz).keepL (Sz _ _ efq) (fun e => hfl (by rw [← e]; exact List.mem_of_getElem? hk))
            · rw [if_neg c3] at hk
              have ek : kk - ls.length = 0 := by
                match hm : kk - ls.length, hk with
                | 0, _ => rfl
                | m + 1, hk => simp at hk
              rw [ek] at hk
              cases hk
              rw [bucket_empty (by omega)]
              exact ⟨[], by rw [upd_ne nzf, upd_same]; rfl, rfl, fun i r p u v => by simp at u⟩
        · refine iteDn (fun z => c ?_) ?_
          · have z' := V.int.inj z
            rw [List.length_map, hll] at z'
            omega
          refine hN' _ _ ⟨rfl, ls, sq, efq, by rw [hll]; omega, hnd, hfl, hnew, hBq⟩
      subst hσ
      have hkn : numAt ps i < ls'.length := by omega
      have hk : ls'[numAt ps i]? = some ls'[numAt ps i] := List.getElem?_eq_getElem hkn
      generalize ls'[numAt ps i] = ln at hk
      obtain ⟨rl, el, tl⟩ := hBx _ _ hk
      have hlm : ln ∈ ls' := List.mem_of_getElem? hk
      have nlf : ln ≠ fo := fun e => hfl' (e ▸ hlm)
      have brl : rl.length ≤ i := by
        rw [tl.1]
        unfold bucket
        rw [List.length_map]
        exact Nat.le_trans (List.length_filter_le _ _) (by rw [List.length_range]; exact Nat.le_refl _)
      refine ⟨_, rfl, _, rfl, fo, _, _, _, rfl, rfl, SqL.of ex, (show atI (ls'.map V.ref) ((numAt ps i : Nat) : Int) = some (.ref ln) from atI_nat (by rw [List.getElem?_map, hk]; rfl)), .inl ⟨rfl, _, SqL.of el⟩, _, rfl, ln, _, _, rfl, rfl, el, big' (by rw [List.length_map]; omega), ?_⟩
      refine ⟨_, _, ls', rfl, sx.upd (hnew' _ hlm), by rw [upd_ne nlf.symm]; exact ex, hll', hnd', hfl', hnew', fun kk l hk' => ?_⟩
      rw [bucket_succ]
      by_cases c : numAt ps i = kk
      · subst c
        rw [hk] at hk'
        cases hk'
        rw [if_pos rfl, hgp]
        refine ⟨rl ++ [r], by rw [upd_same, List.map_append]; rfl, Tups.snoc (tl.keep (tup_keep el)) ?_⟩
        have nrl : r ≠ ln := fun z => by have e := sx _ _ er; rw [z, el] at e; cases e
        rw [upd_ne nrl]
        exact sx _ _ er
      · rw [if_neg c, List.append_nil]
        refine (hBx kk l hk').keepL el fun e => c ?_
        rw [e] at hk'
        exact (List.getElem?_inj hkn hnd').mp (hk.trans hk'.symm)
    · rintro σ Hi ⟨u3, u4, ls, rfl, si, ef, hll, hnd, hfl, hnew, hB⟩
      rw [List.length_map, hrl] at hll hB
      have hdl := deep_le (ps := ps) ps.length (Nat.le_refl _)
      have SHi : Same H Hi := HsH.trans si
      refine ⟨_, rfl, fo, rfl, ⟨_, SqL.of ef⟩, fun D hD => lc_list (K := K) (a := fo) (xs := ls.map V.ref) (fun j σ3 H3 => ∃ (u : Option V) (qs : List Addr) (Ls : List (List Post)), σ3 = [u] ∧ Same Hi H3 ∧ H3 D = some (.lst (qs.map V.ref)) ∧ LayPosts H3 qs Ls ∧ Ls.length = j ∧ (∀ q ∈ qs, q ≠ D) ∧ ∀ (k : Nat) L, Ls[k]? = some L → L.Perm (bucket ps ps.length k) ∧ L.Pairwise leP)
        ⟨none, [], [], rfl, Same.new hD, upd_same, ⟨rfl, fun k q L z => by simp at z⟩, rfl, by simp, fun k L z => by simp at z⟩ (fun j σ3 H3 _ ⟨_, _, _, _, s3, _⟩ => SqL.of (s3 _ _ ef)) ?_ ?_⟩
      · rintro j x σ3 H3 hj ⟨u, qs, Ls, rfl, s3, e3, l3, hLj, nqD, hLs⟩
        have hjl := (List.getElem?_eq_some_iff.mp hj).1
        obtain ⟨l, hl', rfl⟩ := map_get hj
        obtain ⟨rl, el, tl⟩ := (hB j l hl').mono s3
        have brl : rl.length < 64 := by
          rw [tl.1]
          unfold bucket
          rw [List.length_map]
          exact Nat.lt_of_le_of_lt (List.length_filter_le _ _) (by rw [List.length_range]; exact hpl)
        have hql := l3.1
        rw [List.length_map] at hjl
        refine ⟨_, rfl, l, rl, _, rfl, SqL.of el, tl, brl, fun l' rs' ps' hl'n t' hperm hpw => ?_⟩
        have S4 := Same.new (o := .lst (rs'.map V.ref)) hl'n
        have e4 := S4 _ _ e3
        have nlD : l' ≠ D := (ne_of_none e3 hl'n).symm
        refine LcEnd.mk e4 (big' (by rw [List.length_map]; omega)) (by rw [List.length_map]; exact hjl) ⟨_, qs ++ [l'], Ls ++ [ps'], rfl, (s3.trans S4).upd hD, ?_, ?_, by rw [List.length_append, hLj]; rfl, ?_, ?_⟩
        · rw [upd_same, List.map_append]
          rfl
        · refine LayPosts.snoc ⟨l3.1, fun k q L a b => ((l3.2 k q L a b).mono S4).keepL e4 (nqD q (List.mem_of_getElem? a))⟩ ?_
          exact Posts.keepL ⟨rs', upd_same, t'.mono S4⟩ e4 nlD
        · intro q m
          rcases List.mem_append.mp m with m | m
          · exact nqD q m
          · rw [List.mem_singleton.mp m]
            exact nlD
        · intro k L hk
          rw [List.getElem?_append] at hk
          by_cases c : k < Ls.length
          · rw [if_pos c] at hk
            exact hLs k L hk
          · rw [if_neg c] at hk
            have ek : k - Ls.length = 0 := by
              match hm : k - Ls.length, hk with
              | 0, _ => rfl
              | m + 1, hk => simp at hk
            rw [ek] at hk
            cases hk
            have e : k = j := by omega
            rw [e]
            exact ⟨hperm, hpw⟩
      · rintro σ3 H3 ⟨u, qs, Ls, rfl, s3, e3, l3, hLj, nqD, hLs⟩
        rw [List.length_map] at hLj
        refine k D qs Ls H3 (SHi.trans s3) (SHi.free hD) e3 l3 ⟨by rw [hLj, hll], fun k L z => (hLs k L z).1⟩ fun L m => ?_
        obtain ⟨k, hk⟩ := List.mem_iff_getElem?.mp m
        exact (hLs k L hk).2
end
end PN
namespace PN
open PySem L2
theorem size_small {n : Nat} (h : n ≤ 1000000) : n ≤ sizeLine := Nat.le_trans h (by decide)
theorem figs_size : (("0123456789" : Str)).length ≤ sizeLine := by decide +kernel
def sp_figures_of : Sp := fun vs H Q _ => ∃ n : Nat, vs = [.int (n : Nat)] ∧ n ≤ 10000 ∧ ∀ H', Same H H' → Q (.str (figS n)) H'
def sp_number_of : Sp := fun vs H Q _ => ∃ m : Nat, vs = [.str (figS m)] ∧ m ≤ 100000 ∧ Q (.int (m : Nat)) H
def sp_post_of : Sp := fun vs H Q _ => ∃ p : Post, vs = [.str (postS p)] ∧ p.1 ≤ 1000 ∧ p.2 ≤ 1000 ∧ ∀ r H', Same H H' → H r = none → H' r = some (.tup [.int (p.1 : Nat), .int (p.2 : Nat)]) → Q (.ref r) H'
def sp_line_of : Sp := fun vs H Q _ => ∃ (a : Addr) (L : List Post), vs = [.ref a] ∧ Posts H a L ∧ L.length ≤ 100 ∧ (∀ p ∈ L, p.1 ≤ 1000 ∧ p.2 ≤ 1000) ∧ ∀ H', Same H H' → Q (.str (lineS L)) H'
def sp_shown : Sp := fun vs H Q _ => ∃ (w : Int) (a : Addr) (ps : List Post), vs = [.int w, .ref a] ∧ Posts H a ps ∧ 1 ≤ w ∧ w ≤ 1000 ∧ Net w.toNat ps ∧ ps.length < 64 ∧
  ∀ l Ls H', Same H H' → H l = none → H' l = some (.lst ((figS w.toNat :: Ls.map lineS).map V.str)) → LayersOf ps Ls → (∀ L ∈ Ls, L.Pairwise leP) → Q (.ref l) H'
def sp_read : Sp := fun vs H Q _ => ∃ (a : Addr) (w : Nat) (Ls : List (List Post)), vs = [.ref a] ∧ H a = some (.lst ((figS w :: Ls.map lineS).map V.str)) ∧ 1 ≤ w ∧ w ≤ 1000 ∧ (∀ L ∈ Ls, L ≠ []) ∧ Net w Ls.flatten ∧ Ls.length ≤ 100 ∧ Ls.flatten.length ≤ 100 ∧
  ∀ r l H', Same H H' → H r = none → H' r = some (.tup [.int (w : Nat), .ref l]) → Posts H' l Ls.flatten → Q (.ref r) H'
section
variable {P : Program} {w : World} {K : PySem.W.Frag} {mg : Str → Option Value} {base : Heap} {t : Adr}
theorem ok_figures_of (T : Txt K mg t) : FnOk P w K mg base CX0 1 t.a_figures_of t.fd_figures_of ["number"] sp_figures_of := by
  refine T.F_figures_of.ok sc_figures_of (fun vs H Q E h => ?_) (fun cdv A outer s H vs Q E hr h => ?_)
  · obtain ⟨n, rfl, _⟩ := h
    rfl
  · obtain ⟨n, rfl, hn, k⟩ := h
    refine ⟨_, (pss_cons (ps_set (i := 1) sc_figures_of.nd rfl (Or.inl rfl) (pe_lst pa_nil))
      (pss_cons (ps_while PassesOwn.never (pt_cmpR op_gt (pv 0) pe_int (nomark _)) (pss_cons (ps_expr (pe_bm PySem.F.plainAttrs_list PySem.F.slot_list_append PySem.F.type_list_append mt_append (pv 1) (pa_cons (pe_ix ix_str (pe_glob (v := .str "0123456789") rfl T.c_FIGURES ⟨_, rfl⟩) (pe_op op_mod (pv 0) pe_int) (fun _ _ => rfl)) pa_nil)))
        (pss_one (ps_set (i := 0) sc_figures_of.nd rfl (Or.inl rfl) (pe_op op_fdiv (pv 0) pe_int)))))
      (pss_cons (ps_expr (pe_bm PySem.F.plainAttrs_list PySem.F.slot_list_append PySem.F.type_list_append mt_append (pv 1) (pa_cons (pe_ix ix_str (pe_glob (v := .str "0123456789") rfl T.c_FIGURES ⟨_, rfl⟩) (pv 0) (fun _ _ => rfl)) pa_nil)))
      (pss_one (ps_ret (pe_joinRev rfl (by rfl) T.z_reversed pe_str (pv 1))))))), ?_⟩
    refine ⟨Nat.zero_le _, fun fl hfl => ?_⟩
    refine ⟨fun μ σ' H' => ∃ (m : Nat) (fs : List Nat), μ = m ∧ fs.length + m ≤ n ∧ σ' = [some (.int (m : Nat)), some (.ref fl)] ∧ Same H H' ∧ H' fl = some (.lst ((fs.map fun c => (⟨#[c]⟩ : Str)).map V.str)) ∧ decL n = decL m ++ fs.reverse,
      ⟨n, n, [], rfl, by simp, rfl, Same.new hfl, upd_same, by simp⟩, ?_⟩
    rintro m σ' H' ⟨_, fs, rfl, hm, rfl, s', e', hd⟩
    refine ⟨_, rfl, _, _, rfl, rfl, _, rfl, ?_⟩
    by_cases c : 9 < m
    · refine iteD (by omega) ?_
      have hm10 : m % 10 < 10 := Nat.mod_lt _ (by decide)
      refine ⟨fun σ'' H'' => ∃ (fs' : List Nat), fs'.length + m / 10 ≤ n ∧ σ'' = [some (.int ((m / 10 : Nat) : Int)), some (.ref fl)] ∧ Same H H'' ∧ H'' fl = some (.lst ((fs'.map fun c => (⟨#[c]⟩ : Str)).map V.str)) ∧ decL n = decL (m / 10) ++ fs'.reverse,
        fun σ'' H'' ⟨fs', x1, x2, x3, x4, x5⟩ => ⟨m / 10, by omega, m / 10, fs', rfl, x1, x2, x3, x4, x5⟩, ?_⟩
      refine ⟨_, rfl, .inl ⟨rfl, _, SqL.of e'⟩, _, rfl, _, _, rfl, rfl, (by show (0 : Int) < 10; decide), "0123456789", _, 48 + m % 10, rfl, rfl, figs_size, ?_, fl, _, _, rfl, rfl, e', big' (by rw [List.length_map, List.length_map]; omega), ?_⟩
      · have e : ((m : Nat) : Int) % 10 = ((m % 10 : Nat) : Int) := by omega
        show atI ("0123456789" : Str).cps.toList (((m : Nat) : Int) % 10) = _
        rw [e]
        exact figure_at hm10
      refine ⟨_, rfl, _, _, rfl, rfl, ⟨by decide, by decide⟩, fs ++ [48 + m % 10], ?_, ?_, s'.upd hfl, ?_, ?_⟩
      · rw [List.length_append]
        show fs.length + 1 + m / 10 ≤ n
        omega
      · have e : ((m : Nat) : Int) / 10 = ((m / 10 : Nat) : Int) := by omega
        show [some (V.int (((m : Nat) : Int) / 10)), some (V.ref fl)] = _
        rw [e]
      · rw [upd_same, List.map_append, List.map_append]
        rfl
      · rw [hd, decL_big (by omega), List.reverse_append, List.append_assoc]
        rfl
    · refine iteDn (by omega) ?_
      refine ⟨_, rfl, .inl ⟨rfl, _, SqL.of e'⟩, _, rfl, "0123456789", _, 48 + m, rfl, rfl, figs_size, figure_at (by omega), fl, _, _, rfl, rfl, e', big' (by rw [List.length_map, List.length_map]; omega), ?_⟩
      have e2 : (upd H' fl (.lst ((fs.map fun c => (⟨#[c]⟩ : Str)).map V.str ++ [V.str ⟨#[48 + m]⟩]))) fl = some (.lst (((fs ++ [48 + m]).map fun c => (⟨#[c]⟩ : Str)).map V.str)) := by
        rw [upd_same, List.map_append, List.map_append]
        rfl
      refine ⟨"", rfl, _, rfl, fl, _, rfl, SqL.of e2, ?_, ?_⟩
      · refine join_ok (B := 1) (fun y hy => ?_) ?_
        · rw [List.mem_reverse] at hy
          obtain ⟨c, _, rfl⟩ := List.mem_map.mp hy
          exact Nat.le_refl _
        · rw [List.length_reverse, List.length_map, List.length_append]
          have e0 : ("" : Str).length = 0 := by decide +kernel
          rw [e0]
          show (fs.length + 1) * 1 + (fs.length + 1) * 0 ≤ 16777216
          omega
      · rw [← List.map_reverse, join_none]
        have ef : (⟨(fs ++ [48 + m]).reverse.toArray⟩ : Str) = figS n := by
          unfold figS
          rw [hd, decL_small (by omega), List.reverse_append]
          rfl
        rw [ef]
        exact k _ (s'.upd hfl)
theorem figS_zero : figS 0 = ("0" : Str) := by decide +kernel
theorem ok_number_of (T : Txt K mg t) : FnOk P w K mg base CX0 1 t.a_number_of t.fd_number_of ["text"] sp_number_of := by
  refine T.F_number_of.ok sc_number_of (fun vs H Q E h => ?_) (fun cdv A outer s H vs Q E hr h => ?_)
  · obtain ⟨m, rfl, _⟩ := h
    rfl
  · obtain ⟨m, rfl, hm, k⟩ := h
    refine ⟨_, (pss_cons (ps_if (PW.pt (pw_or (pt_cmpR op_eq (pv 0) pe_str (nomark _)) (pw_or1 (PW.pt (pw_and (pt_cmpR op_eq (pe_ix ix_str (pv 0) pe_int (fun _ _ => rfl)) pe_str (nomark _)) (pw_and1 (pt_cmpR op_ne (pv 0) pe_str (nomark _)))))))) (pss_one ps_never)
        pss_nil)
      (pss_cons (ps_set (i := 1) sc_number_of.nd rfl (Or.inl rfl) pe_int)
      (pss_cons (ps_for PassesOwn.never rfl (pi_str (pv 0)) (pg_name (i := 2) sc_number_of.nd rfl (Or.inl rfl))
        (pss_cons (ps_if (pt_cmpR op_notIn_str (pv 2) (pe_glob (v := .str "0123456789") rfl T.c_FIGURES ⟨_, rfl⟩) rfl) (pss_one ps_never)
          pss_nil)
        (pss_one (ps_set (i := 1) sc_number_of.nd rfl (Or.inl rfl) (pe_op op_add (pe_op op_mul pe_int (pv 1)) (pe_callTy call_intS (by rfl) T.z_int PyProof.Rows.boot_int (pa_cons (pv 2) pa_nil)))))))
      (pss_one (ps_ret (pv 1)))))), ?_⟩
    have hl := decL_length m
    have hsz : (figS m).length ≤ sizeLine := by rw [figS_length]; exact size_small (by omega)
    refine seq_by (fun σ' Hx => σ' = [some (.str (figS m)), none, none] ∧ Hx = H) (fun N hN' => ?_) (fun σ' Hx ⟨hσ, hHx⟩ => ?_)
    · refine ⟨_, rfl, rfl, _, rfl, ?_⟩
      refine iteDn (fun z => ?_) ?_
      · have z' := congrArg Str.length (V.str.inj z)
        rw [figS_length] at z'
        have e0 : ("" : Str).length = 0 := by decide +kernel
        omega
      rcases decL_first m with z | ⟨d, r, h1, h2, h3⟩
      · subst z
        refine ⟨_, rfl, _, _, 48, rfl, rfl, hsz, ?_, rfl, _, rfl, ?_⟩
        · rw [figS_cps]
          exact atI_nat (j := 0) (by rw [decL_small (by decide)]; rfl)
        · refine iteD (by decide +kernel) ?_
          refine ⟨_, rfl, rfl, _, rfl, ?_⟩
          refine iteNS (by rw [figS_zero]) ?_
          exact hN' _ _ ⟨rfl, rfl⟩
      · refine ⟨_, rfl, _, _, 48 + d, rfl, rfl, hsz, ?_, rfl, _, rfl, ?_⟩
        · rw [figS_cps]
          exact atI_nat (j := 0) (by rw [h3]; rfl)
        · refine iteDn (fun z => ?_) ?_
          · have z' := congrArg (fun s : Str => s.cps.toList) (V.str.inj z)
            have e0 : ("0" : Str).cps.toList = [48] := by decide +kernel
            have z2 : [48 + d] = [48] := by rw [← e0]; exact z'
            have z3 := (List.cons.inj z2).1
            omega
          refine iteF ?_
          exact hN' _ _ ⟨rfl, rfl⟩
    subst hσ hHx
    refine ⟨_, rfl, figS m, rfl, for_str (x := figS m) (fun i σ Hi => ∃ u : Option V, σ = [some (.str (figS m)), some (.int (((((decL m).take i).foldl (fun acc c => acc * 10 + (c - 48)) 0 : Nat)) : Int)), u] ∧ Hi = Hx)
      ⟨_, rfl, rfl⟩ ?_ ?_⟩
    · rintro i c σ Hi hc ⟨u, rfl, rfl⟩
      have hc' : (decL m)[i]? = some c := by
        rw [← figS_cps, ← hc]
        simp
      obtain ⟨d, hd, rfl⟩ := decL_fig m c (List.mem_of_getElem? hc')
      refine ⟨_, rfl, _, _, rfl, rfl, _, rfl, ?_⟩
      rw [digit_in hd]
      refine iteF ?_
      refine ⟨_, rfl, _, _, rfl, rfl, .inl ⟨by decide, by decide⟩, _, rfl, d, rfl, hd, _, _, rfl, rfl, ?_⟩
      refine ⟨some (.str ⟨#[48 + d]⟩), ?_, rfl⟩
      rw [take_snoc hc', List.foldl_append]
      show [some (V.str (figS m)), some (V.int (10 * _ + ((d : Nat) : Int))), _] = [some (V.str (figS m)), some (V.int ((_ * 10 + (48 + d - 48) : Nat) : Int)), _]
      generalize ((decL m).take i).foldl (fun acc c => acc * 10 + (c - 48)) 0 = v
      have e : (10 : Int) * ((v : Nat) : Int) + ((d : Nat) : Int) = ((v * 10 + (48 + d - 48) : Nat) : Int) := by omega
      rw [e]
    · rintro σ Hi ⟨u, rfl, rfl⟩
      refine ⟨_, rfl, ?_⟩
      have e : (decL m).take (figS m).cps.size = decL m := by
        refine List.take_of_length_le ?_
        show _ ≤ (decL m).toArray.size
        rw [List.size_toArray]
        exact Nat.le_refl _
      rw [e, decL_val]
      exact k
theorem ok_post_of (T : Txt K mg t) : FnOk P w K mg base CX0 2 t.a_post_of t.fd_post_of ["text"] sp_post_of := by
  have G_number_of : FnOk P w K mg base CX0 1 t.a_number_of t.fd_number_of ["text"] sp_number_of := ok_number_of T
  refine T.F_post_of.ok sc_post_of (fun vs H Q E h => ?_) (fun cdv A outer s H vs Q E hr h => ?_)
  · obtain ⟨p, rfl, _⟩ := h
    rfl
  · obtain ⟨p, rfl, h1, h2, k⟩ := h
    have hr_number_of := hr
    refine ⟨_, (pss_cons (ps_set (i := 1) sc_post_of.nd rfl (Or.inl rfl) (pe_bm PySem.F.plainAttrs_str PySem.F.slot_str_split PySem.F.type_str_split mt_split (pv 0) (pa_cons pe_str pa_nil)))
      (pss_cons (ps_if (pt_cmpR op_ne (pe_callB call_len_seq (by rfl) T.z_len PySem.boot_len (pa_cons (pv 1) pa_nil)) pe_int (nomark _)) (pss_one ps_never)
        pss_nil)
      (pss_one (ps_ret (pe_tup (pa_cons (pe_call G_number_of hr_number_of rfl T.m_number_of T.F_number_of.kp T.b_number_of .nil pass0 (pa_cons (pe_ix ix_list (pv 1) pe_int (fun _ _ => rfl)) pa_nil)) (pa_cons (pe_call G_number_of hr_number_of rfl T.m_number_of T.F_number_of.kp T.b_number_of .nil pass0 (pa_cons (pe_ix ix_list (pv 1) pe_int (fun _ _ => rfl)) pa_nil)) pa_nil))))))), ?_⟩
    have hl := postS_length p
    refine ⟨_, rfl, rfl, _, _, rfl, rfl, by decide +kernel, size_small (by omega), fun l hln => ?_⟩
    have el : (upd H l (.lst ((Txt.split (postS p) ":").map V.str))) l = some (.lst [.str (figS p.1), .str (figS p.2)]) := by rw [upd_same, postS_split]; rfl
    have S := Same.new (o := .lst ((Txt.split (postS p) ":").map V.str)) hln
    generalize upd H l (.lst ((Txt.split (postS p) ":").map V.str)) = H1 at el S ⊢
    refine ⟨_, rfl, l, _, rfl, .inl (SqL.of el), rfl, _, rfl, ?_⟩
    refine iteNS rfl ?_
    refine ⟨_, rfl, l, _, _, _, rfl, rfl, SqL.of el, atI_nat (j := 0) rfl, p.1, rfl, by omega, _, rfl, l, _, _, _, rfl, rfl, SqL.of el, atI_nat (j := 1) rfl, p.2, rfl, by omega, (by show 2 ≤ sizeLine; decide), fun q hq => ?_⟩
    exact k q _ (S.trans (Same.new hq)) (S.free hq) upd_same
theorem ok_line_of (T : Txt K mg t) : FnOk P w K mg base CX0 2 t.a_line_of t.fd_line_of ["layer"] sp_line_of := by
  have G_figures_of : FnOk P w K mg base CX0 1 t.a_figures_of t.fd_figures_of ["number"] sp_figures_of := ok_figures_of T
  refine T.F_line_of.ok sc_line_of (fun vs H Q E h => ?_) (fun cdv A outer s H vs Q E hr h => ?_)
  · obtain ⟨a, L, rfl, _⟩ := h
    rfl
  · obtain ⟨a, L, rfl, hP, hL, hb, k⟩ := h
    have hr_figures_of := hr
    refine ⟨_, (pss_one (ps_ret (pe_bm PySem.F.plainAttrs_str PySem.F.slot_str_join PySem.F.type_str_join mt_join pe_str (pa_cons (pe_lc rfl rfl (pi_list (pv 0)) (by rfl) (LcFree.nil (N := ["low", "high"]) [(".0", .local), ("low", .local), ("high", .local), ("figures_of", .globalImplicit)] rfl rfl (by decide +kernel)) rfl (by decide +kernel) (by decide +kernel) (fun _ _ _ _ => (pg_tupK (K := K) rfl rfl (n := 2) (pgs_cons (pg_name (i := 0) (show (["low", "high"] : List Str).Nodup by decide +kernel) rfl (Or.inl rfl)) (pgs_cons (pg_name (i := 1) (show (["low", "high"] : List Str).Nodup by decide +kernel) rfl (Or.inl rfl)) pgs_nil)))) (fun _ _ _ _ => (pe_op op_add_str (pe_op op_add_str (pe_call G_figures_of hr_figures_of rfl T.m_figures_of T.F_figures_of.kp T.b_figures_of .nil pass0 (pa_cons (pv 0) pa_nil)) pe_str) (pe_call G_figures_of hr_figures_of rfl T.m_figures_of T.F_figures_of.kp T.b_figures_of .nil pass0 (pa_cons (pv 1) pa_nil))))) pa_nil)))), ?_⟩
    obtain ⟨rs, ha, ht⟩ := id hP
    have hrl := ht.1
    refine ⟨rfl, _, rfl, a, rfl, ⟨_, SqL.of ha⟩, fun D hD => lc_list (K := K) (a := a) (xs := rs.map V.ref) (fun j σ3 H3 => ∃ (u v : Option V), σ3 = [u, v] ∧ Same H H3 ∧ H3 D = some (.lst (((L.take j).map postS).map V.str)))
      ⟨none, none, rfl, Same.new hD, upd_same⟩ (fun j σ3 H3 _ ⟨_, _, _, s3, _⟩ => SqL.of (s3 _ _ ha)) ?_ ?_⟩
    · rintro j x σ3 H3 hj ⟨u, v, rfl, s3, e3⟩
      have hjl := (List.getElem?_eq_some_iff.mp hj).1
      obtain ⟨r, hr', rfl⟩ := map_get hj
      obtain ⟨p, hp, er⟩ := ht.get hr'
      obtain ⟨b1, b2⟩ := hb p (List.mem_of_getElem? hp)
      have d1 := decL_length p.1
      have d2 := decL_length p.2
      have f1 := figS_length p.1
      have f2 := figS_length p.2
      have fc : (":" : Str).length = 1 := by decide +kernel
      refine ⟨r, _, rfl, SqT.of (s3 _ _ er), rfl, _, _, rfl, _, _, rfl, rfl, ?_⟩
      refine ⟨_, rfl, p.1, rfl, by omega, fun H4 s4 => ⟨_, _, rfl, rfl, size_small (by omega), _, rfl, p.2, rfl, by omega, fun H5 s5 => ⟨_, _, rfl, rfl, size_small (by rw [Str.length_append]; omega), ?_⟩⟩⟩
      have e5 := s5 _ _ (s4 _ _ e3)
      refine LcEnd.mk e5 (big' (by rw [List.length_map, List.length_map, List.length_take]; omega)) hjl ⟨_, _, rfl, ((s3.trans s4).trans s5).upd hD, ?_⟩
      rw [upd_same, take_snoc hp, List.map_append, List.map_append]
      rfl
    · rintro σ3 H3 ⟨u, v, rfl, s3, e3⟩
      rw [List.length_map, hrl, List.take_length] at e3
      refine ⟨_, D, L.map postS, rfl, rfl, SqL.of e3, join_ok (B := 2003) (fun y hy => ?_) ?_, k H3 s3⟩
      · obtain ⟨p, hp, rfl⟩ := List.mem_map.mp hy
        have z := postS_length p
        have := hb p hp
        omega
      · have e0 : (" " : Str).length = 1 := by decide +kernel
        rw [List.length_map, e0]
        omega
theorem ok_shown (T : Txt K mg t) : FnOk P w K mg base CX0 3 t.a_shown t.fd_shown ["width", "posts"] sp_shown := by
  have G_layers : FnOk P w K mg base CX0 2 t.a_layers t.fd_layers ["width", "posts"] sp_layers := ok_layers T
  have G_figures_of : FnOk P w K mg base CX0 1 t.a_figures_of t.fd_figures_of ["number"] sp_figures_of := ok_figures_of T
  have G_line_of : FnOk P w K mg base CX0 2 t.a_line_of t.fd_line_of ["layer"] sp_line_of := ok_line_of T
  refine T.F_shown.ok sc_shown (fun vs H Q E h => ?_) (fun cdv A outer s H vs Q E hr h => ?_)
  · obtain ⟨w, a, ps, rfl, _⟩ := h
    rfl
  · obtain ⟨w, a, ps, rfl, hP, h1, h2, hn, hpl, k⟩ := h
    have hr_layers := hr
    have hr_figures_of := hr.mono (j := 1) (by decide)
    have hr_line_of := hr
    refine ⟨_, (pss_cons (ps_set (i := 2) sc_shown.nd rfl (Or.inl rfl) (pe_call G_layers hr_layers rfl T.m_layers T.F_layers.kp T.b_layers .nil pass0 (pa_cons (pv 0) (pa_cons (pv 1) pa_nil))))
      (pss_one (ps_ret (pe_op op_cat (pe_lst (pa_cons (pe_call G_figures_of hr_figures_of rfl T.m_figures_of T.F_figures_of.kp T.b_figures_of .nil pass0 (pa_cons (pv 0) pa_nil)) pa_nil)) (pe_lc rfl rfl (pi_list (pv 2)) (by rfl) (LcFree.nil (N := ["layer"]) [(".0", .local), ("layer", .local), ("line_of", .globalImplicit)] rfl rfl (by decide +kernel)) rfl (by decide +kernel) (by decide +kernel) (fun _ _ _ _ => (pg_name (i := 0) (show (["layer"] : List Str).Nodup by decide +kernel) rfl (Or.inl rfl))) (fun _ _ _ _ => (pe_call G_line_of hr_line_of rfl T.m_line_of T.F_line_of.kp T.b_line_of .nil pass0 (pa_cons (pv 0) pa_nil)))))))), ?_⟩
    refine ⟨_, rfl, _, rfl, w, a, ps, rfl, hP, h1, hn, hpl, fun fo qs Ls H1 s1 n1 ef hL hLs hso => ?_⟩
    have hql := hL.1
    obtain ⟨hlen, _⟩ := hLs.pass hn
    have hdl := deep_le (ps := ps) ps.length (Nat.le_refl _)
    have hll := hLs.len
    refine ⟨_, rfl, w.toNat, ?_, by omega, fun H2 s2 => ⟨(by show 1 ≤ sizeLine; decide), fun l1 hl1 => ?_⟩⟩
    · show [V.int w] = [V.int ((w.toNat : Nat) : Int)]
      rw [show ((w.toNat : Nat) : Int) = w by omega]
    have S2 := s2.trans (Same.new (o := .lst [V.str (figS w.toNat)]) hl1)
    have ef2 := S2 _ _ ef
    refine ⟨_, rfl, fo, rfl, ⟨_, SqL.of ef2⟩, fun D hD => lc_list (K := K) (a := fo) (xs := qs.map V.ref) (fun j σ3 H3 => ∃ (u : Option V), σ3 = [u] ∧ Same (upd H2 l1 (.lst [V.str (figS w.toNat)])) H3 ∧ H3 D = some (.lst (((Ls.take j).map lineS).map V.str)))
      ⟨none, rfl, Same.new hD, upd_same⟩ (fun j σ3 H3 _ ⟨_, _, s3, _⟩ => SqL.of (s3 _ _ ef2)) ?_ ?_⟩
    · rintro j x σ3 H3 hj ⟨u, rfl, s3, e3⟩
      have hjl := (List.getElem?_eq_some_iff.mp hj).1
      obtain ⟨q, hq, rfl⟩ := map_get hj
      rw [List.length_map] at hjl
      have hLj : Ls[j]? = some Ls[j] := List.getElem?_eq_getElem (by omega)
      generalize Ls[j] = L at hLj
      have hPq := ((hL.2 j q L hq hLj).mono S2).mono s3
      have hLl : L.length ≤ 100 := by
        have z := (hLs.at_ j L hLj).length_eq
        unfold bucket at z
        rw [List.length_map] at z
        have z2 := List.length_filter_le (fun i => decide (numAt ps i = j)) (List.range ps.length)
        rw [List.length_range] at z2
        omega
      refine ⟨_, rfl, q, L, rfl, hPq, hLl, fun p hp => ?_, fun H4 s4 => ?_⟩
      · have z := hn p (hLs.mem hLj hp)
        omega
      · refine LcEnd.mk (s4 _ _ e3) (big' (by rw [List.length_map, List.length_map, List.length_take]; omega)) (by rw [List.length_map]; exact hjl) ⟨_, rfl, (s3.trans s4).upd hD, ?_⟩
        rw [upd_same, take_snoc hLj, List.map_append, List.map_append]
        rfl
    · rintro σ3 H3 ⟨u, rfl, s3, e3⟩
      rw [List.length_map, hql, List.take_length] at e3
      have e1 : H3 l1 = some (.lst [V.str (figS w.toNat)]) := s3 _ _ upd_same
      refine ⟨l1, D, _, _, rfl, rfl, e1, e3, big (by rw [List.length_map, List.length_map]; show 1 + _ ≤ 100000; omega), fun l2 hl2 => ?_⟩
      have S3 := (s1.trans S2).trans s3
      exact k l2 Ls _ (S3.trans (Same.new hl2)) (S3.free hl2) upd_same hLs hso
theorem ok_read (T : Txt K mg t) : FnOk P w K mg base CX0 3 t.a_read t.fd_read ["lines"] sp_read := by
  have G_number_of : FnOk P w K mg base CX0 1 t.a_number_of t.fd_number_of ["text"] sp_number_of := ok_number_of T
  have G_post_of : FnOk P w K mg base CX0 2 t.a_post_of t.fd_post_of ["text"] sp_post_of := ok_post_of T
  have G_check_net : FnOk P w K mg base CX0 1 t.a_check_net t.fd_check_net ["width", "posts"] sp_check_net := ok_check_net T
  refine T.F_read.ok sc_read (fun vs H Q E h => ?_) (fun cdv A outer s H vs Q E hr h => ?_)
  · obtain ⟨a, w, Ls, rfl, _⟩ := h
    rfl
  · obtain ⟨a, w, Ls, rfl, ha, h1, h2, hne, hN, hl1, hl2, k⟩ := h
    have hr_number_of := hr.mono (j := 1) (by decide)
    have hr_post_of := hr
    have hr_check_net := hr.mono (j := 1) (by decide)
    refine ⟨_, (pss_cons (ps_if (pt_cmpR op_eq (pe_callB call_len_seq (by rfl) T.z_len PySem.boot_len (pa_cons (pv 0) pa_nil)) pe_int (nomark _)) (pss_one ps_never)
        pss_nil)
      (pss_cons (ps_set (i := 1) sc_read.nd rfl (Or.inl rfl) (pe_call G_number_of hr_number_of rfl T.m_number_of T.F_number_of.kp T.b_number_of .nil pass0 (pa_cons (pe_ix ix_list (pv 0) pe_int (fun _ _ => rfl)) pa_nil)))
      (pss_cons (ps_set (i := 2) sc_read.nd rfl (Or.inl rfl) (pe_lst pa_nil))
      (pss_cons (ps_for PassesOwn.never rfl (pi_list (pe_slice sl_list (pv 0) (po_some pe_int) po_none)) (pg_name (i := 3) sc_read.nd rfl (Or.inl rfl))
        (pss_one (ps_expr (pe_bm PySem.F.plainAttrs_list PySem.F.slot_list_extend PySem.F.type_list_extend mt_extend (pv 2) (pa_cons (pe_lc rfl rfl (pi_list (pe_bm PySem.F.plainAttrs_str PySem.F.slot_str_split PySem.F.type_str_split mt_split (pv 3) (pa_cons pe_str pa_nil))) (by rfl) (LcFree.nil (N := ["text"]) [(".0", .local), ("text", .local), ("post_of", .globalImplicit)] rfl rfl (by decide +kernel)) rfl (by decide +kernel) (by decide +kernel) (fun _ _ _ _ => (pg_name (i := 0) (show (["text"] : List Str).Nodup by decide +kernel) rfl (Or.inl rfl))) (fun _ _ _ _ => (pe_call G_post_of hr_post_of rfl T.m_post_of T.F_post_of.kp T.b_post_of .nil pass0 (pa_cons (pv 0) pa_nil)))) pa_nil)))))
      (pss_cons (ps_tryQ rfl (pss_one (ps_expr (pe_call G_check_net hr_check_net rfl T.m_check_net T.F_check_net.kp T.b_check_net .nil pass0 (pa_cons (pv 1) (pa_cons (pv 2) pa_nil))))))
      (pss_one (ps_ret (pe_tup (pa_cons (pv 1) (pa_cons (pv 2) pa_nil)))))))))), ?_⟩
    have hlanes : ∀ L ∈ Ls, ∀ p ∈ L, p.1 ≤ 1000 ∧ p.2 ≤ 1000 := fun L hL p hp => by
      have z := hN p (List.mem_flatten.mpr ⟨L, hL, hp⟩)
      omega
    refine ⟨_, rfl, a, _, rfl, .inl (SqL.of ha), rfl, _, rfl, ?_⟩
    refine iteDn (fun z => ?_) ?_
    · have z' := V.int.inj z
      rw [List.length_map, List.length_cons] at z'
      omega
    refine ⟨_, rfl, a, _, _, _, rfl, rfl, SqL.of ha, atI_nat (j := 0) rfl, w, rfl, by omega, ?_⟩
    refine ⟨Nat.zero_le _, fun pl hpl => ?_⟩
    have S1 := Same.new (o := .lst []) hpl
    refine ⟨_, rfl, _, rfl, a, _, rfl, SqL.of (S1 _ _ ha), fun sl hsl => ?_⟩
    have ecut : cutV ((figS w :: Ls.map lineS).map V.str) (some 1) none = (Ls.map lineS).map V.str := by
      unfold cutV
      rw [HT.sIx_none, List.length_map, List.length_cons, List.length_map]
      have e1 : HT.sIx (Ls.length + 1) 0 (some 1) = 1 := by
        rw [show (1 : Int) = ((1 : Nat) : Int) from rfl, HT.sIx_nat]
        omega
      rw [e1]
      show (((Ls.map lineS).map V.str)).take (Ls.length + 1 - 1) = _
      rw [Nat.add_sub_cancel]
      exact List.take_of_length_le (by rw [List.length_map, List.length_map]; exact Nat.le_refl _)
    rw [ecut]
    have S2 := S1.trans (Same.new (o := .lst ((Ls.map lineS).map V.str)) hsl)
    have esl : (upd (upd H pl (.lst [])) sl (.lst ((Ls.map lineS).map V.str))) sl = some (.lst ((Ls.map lineS).map V.str)) := upd_same
    have epl : (upd (upd H pl (.lst [])) sl (.lst ((Ls.map lineS).map V.str))) pl = some (.lst []) := by
      rw [upd_ne (fun z => by rw [← z, upd_same] at hsl; cases hsl), upd_same]
    have nps : pl ≠ sl := fun z => by rw [← z, upd_same] at hsl; cases hsl
    have nsl : H sl = none := S1.free hsl
    generalize upd (upd H pl (.lst [])) sl (.lst ((Ls.map lineS).map V.str)) = H2 at S2 esl epl ⊢
    obtain ⟨Hs, hHs⟩ : ∃ Hs : Hp, ∀ b, Hs b = if b = pl then none else H2 b := ⟨_, fun b => rfl⟩
    have Hsp : Hs pl = none := by rw [hHs, if_pos rfl]
    have Hse : ∀ b, b ≠ pl → Hs b = H2 b := fun b nb => by rw [hHs, if_neg nb]
    have Hs2 : Same Hs H2 := fun b o z => by
      by_cases e : b = pl
      · rw [e, Hsp] at z
        cases z
      · rw [Hse b e] at z
        exact z
    have HHs : Same H Hs := fun b o z => by
      rw [Hse b (fun e => by rw [e, hpl] at z; cases z)]
      exact S2 _ _ z
    have ess : Hs sl = some (.lst ((Ls.map lineS).map V.str)) := by rw [Hse sl nps.symm]; exact esl
    refine ⟨sl, rfl, ⟨_, SqL.of esl⟩, for_list (K := K) (a := sl) (xs := (Ls.map lineS).map V.str) (fun i σ Hi => ∃ (u3 : Option V) (rs : List Addr), σ = [some (.ref a), some (.int (w : Nat)), some (.ref pl), u3, none] ∧ Same Hs Hi ∧ Hi pl = some (.lst (rs.map V.ref)) ∧ Tups Hi rs (Ls.take i).flatten)
      ⟨none, [], rfl, Hs2, epl, ⟨rfl, fun i r p u v => by simp at u⟩⟩ (fun i σ Hi _ ⟨_, _, _, si, _⟩ => SqL.of (si _ _ ess)) ?_ ?_⟩
    · rintro i x σ Hi hi ⟨u3, rs, rfl, si, ei, ti⟩
      obtain ⟨y, hy, rfl⟩ := map_get hi
      obtain ⟨L, hLi, rfl⟩ := map_get hy
      have hLm := List.mem_of_getElem? hLi
      have hLne := hne L hLm
      have hb := hlanes L hLm
      have hrl := ti.1
      have hf1 := flat_len_le (Ls := Ls) (i + 1)
      rw [take_flat hLi, List.length_append] at hf1
      have hls := lineS_length (L := L) (B := 2003) fun p hp => by have := hb p hp; omega
      refine ⟨_, rfl, .inl ⟨rfl, _, SqL.of ei⟩, _, rfl, rfl, _, _, rfl, rfl, by decide +kernel, size_small (by have : L.length * 2004 ≤ 100 * 2004 := Nat.mul_le_mul_right _ (by omega); omega), fun tl htl => ?_⟩
      rw [lineS_split hLne]
      have S3 := Same.new (o := .lst ((L.map postS).map V.str)) htl
      have etl : (upd Hi tl (.lst ((L.map postS).map V.str))) tl = some (.lst ((L.map postS).map V.str)) := upd_same
      have ei3 := S3 _ _ ei
      have ti3 := ti.mono S3
      have si3 := si.trans S3
      generalize upd Hi tl (.lst ((L.map postS).map V.str)) = H3 at S3 etl ei3 ti3 si3 ⊢
      refine ⟨tl, rfl, ⟨_, SqL.of etl⟩, fun D hD => lc_list (K := K) (a := tl) (xs := (L.map postS).map V.str) (fun j σ4 H4 => ∃ (u : Option V) (qs : List Addr), σ4 = [u] ∧ Same H3 H4 ∧ H4 D = some (.lst (qs.map V.ref)) ∧ Tups H4 qs (L.take j))
        ⟨none, [], rfl, Same.new hD, upd_same, ⟨rfl, fun i r p u v => by simp at u⟩⟩ (fun j σ4 H4 _ ⟨_, _, _, s4, _⟩ => SqL.of (s4 _ _ etl)) ?_ ?_⟩
      · rintro j x σ4 H4 hj ⟨u, qs, rfl, s4, e4, t4⟩
        have hjl := (List.getElem?_eq_some_iff.mp hj).1
        obtain ⟨y, hy, rfl⟩ := map_get hj
        obtain ⟨p, hp, rfl⟩ := map_get hy
        obtain ⟨b1, b2⟩ := hb p (List.mem_of_getElem? hp)
        have hql := t4.1
        rw [List.length_take] at hql
        refine ⟨_, rfl, p, rfl, b1, b2, fun r H5 s5 n5 er => ?_⟩
        have e5 := s5 _ _ e4
        have nrD : r ≠ D := ne_of er e5 (by intro z; cases z)
        refine LcEnd.mk e5 (big' (by rw [List.length_map]; omega)) hjl ⟨_, qs ++ [r], rfl, (s4.trans s5).upd hD, ?_, ?_⟩
        · rw [upd_same, List.map_append]
          rfl
        · rw [take_snoc hp]
          refine Tups.snoc ((t4.mono s5).keep (tup_keep e5)) ?_
          rw [upd_ne nrD]
          exact er
      · rintro σ4 H4 ⟨u, qs, rfl, s4, e4, t4⟩
        rw [List.length_map, List.length_map, List.take_length] at t4
        have hql := t4.1
        have ei4 := s4 _ _ ei3
        refine ⟨pl, D, _, _, rfl, rfl, ei4, e4, big (by rw [List.length_map, List.length_map]; omega), ?_⟩
        have tk := tup_keep (o := .lst (rs.map V.ref ++ qs.map V.ref)) ei4
        refine ⟨_, rs ++ qs, rfl, (si3.trans s4).upd Hsp, by rw [upd_same, List.map_append], ?_⟩
        rw [take_flat hLi]
        exact Tups.app ((ti3.mono s4).keep tk) (t4.keep tk)
    · rintro σ Hi ⟨u3, rs, rfl, si, ei, ti⟩
      rw [List.length_map, List.length_map, List.take_length] at ti
      refine ⟨_, rfl, _, rfl, ((w : Nat) : Int), pl, Ls.flatten, rfl, ⟨rs, ei, ti⟩, by omega, by rw [Int.toNat_natCast]; exact hN, fun H5 s5 => ?_⟩
      refine ⟨_, rfl, _, rfl, (by show 2 ≤ sizeLine; decide), fun q hq => ?_⟩
      have S5 := (HHs.trans si).trans s5
      exact k q pl _ (S5.trans (Same.new hq)) (S5.free hq) upd_same ((Posts.mono ⟨rs, ei, ti⟩ s5).mono (Same.new hq))
end
end PN
namespace PN
open PySem L2
def spLaw (K : PySem.W.Frag) : Sp := fun vs H Q _ => ∃ (a : Addr) (ns : List Int), vs = [.ref a] ∧ SqL K H a (ns.map V.int) ∧ ns.length ≤ 63 ∧ ∀ H', Q (.bl true) H'
/-! the law's own layers -/
def shB (ps : List Post) (i k : Nat) : Bool := (bucket ps i k).any fun q => shareB q (gP ps i)
def placeTo (ps : List Post) (i : Nat) : Nat → Nat
  | 0 => 0
  | k + 1 => if shB ps i k = true then k + 1 else placeTo ps i k
theorem place_ge {ps : List Post} {i k : Nat} (h : shB ps i k = true) : ∀ n, k < n → k + 1 ≤ placeTo ps i n
  | 0, z => absurd z (Nat.not_lt_zero _)
  | n + 1, z => by
    show k + 1 ≤ if shB ps i n = true then n + 1 else placeTo ps i n
    by_cases c : shB ps i n = true
    · rw [if_pos c]
      omega
    · rw [if_neg c]
      have e : k ≠ n := fun e => c (e ▸ h)
      exact place_ge h n (by omega)
theorem place_from {ps : List Post} {i : Nat} : ∀ n, placeTo ps i n = 0 ∨ ∃ k, k < n ∧ shB ps i k = true ∧ placeTo ps i n = k + 1
  | 0 => .inl rfl
  | n + 1 => by
    have e : placeTo ps i (n + 1) = if shB ps i n = true then n + 1 else placeTo ps i n := rfl
    by_cases c : shB ps i n = true
    · rw [if_pos c] at e
      exact .inr ⟨n, by omega, c, e⟩
    · rw [if_neg c] at e
      rcases place_from (ps := ps) (i := i) n with z | ⟨k, h1, h2, h3⟩
      · exact .inl (e.trans z)
      · exact .inr ⟨k, by omega, h2, e.trans h3⟩
theorem shB_iff {ps : List Post} {i k : Nat} : shB ps i k = true ↔ ∃ j, j < i ∧ numAt ps j = k ∧ shareB (gP ps j) (gP ps i) = true := by
  unfold shB
  rw [List.any_eq_true]
  constructor
  · rintro ⟨q, hq, hs⟩
    obtain ⟨j, h1, h2, h3⟩ := mem_bucket.mp hq
    exact ⟨j, h1, h2, by rw [h3]; exact hs⟩
  · rintro ⟨j, h1, h2, h3⟩
    exact ⟨gP ps j, mem_bucket.mpr ⟨j, h1, h2, rfl⟩, h3⟩
theorem place_num {ps : List Post} {i : Nat} (hi : i < ps.length) : placeTo ps i (deepTo ps i) = numAt ps i := by
  have up : placeTo ps i (deepTo ps i) ≤ numAt ps i := by
    rcases place_from (ps := ps) (i := i) (deepTo ps i) with z | ⟨k, h1, h2, h3⟩
    · omega
    · obtain ⟨j, g1, g2, g3⟩ := shB_iff.mp h2
      have := share_lt g1 hi g3
      omega
  have dn : numAt ps i ≤ placeTo ps i (deepTo ps i) := by
    by_cases z : 0 < numAt ps i
    · obtain ⟨j, g1, g2, g3⟩ := share_from hi z
      have := place_ge (shB_iff.mpr ⟨j, g1, rfl, g2⟩) (deepTo ps i) (num_deep _ j g1)
      omega
    · omega
  omega
theorem any_take {α : Type} {f : α → Bool} {l : List α} {m : Nat} {x : α} (h : l[m]? = some x) : (l.take (m + 1)).any f = ((l.take m).any f || f x) := by
  rw [take_snoc h, List.any_append]
  simp
/-! posts in pieces -/
def piece (ps : List Post) (sz j : Nat) : List Post := (ps.drop (j * sz)).take sz
theorem pieces_flat (ps : List Post) (sz : Nat) : ∀ n, ((List.range n).map (piece ps sz)).flatten = ps.take (n * sz)
  | 0 => by simp
  | n + 1 => by
    rw [List.range_succ, List.map_append, List.flatten_append, pieces_flat ps sz n, Nat.add_mul, Nat.one_mul, List.take_add]
    simp [piece]
theorem cut_piece (rs : List Addr) (a b : Nat) (h : a ≤ rs.length) : cutV (rs.map V.ref) (some ((a : Nat) : Int)) (some (((a : Nat) : Int) + ((b : Nat) : Int))) = ((rs.drop a).take b).map V.ref := by
  unfold cutV
  rw [show ((a : Nat) : Int) + ((b : Nat) : Int) = ((a + b : Nat) : Int) by omega, HT.sIx_nat, HT.sIx_nat, List.length_map, List.map_take, List.map_drop, Nat.min_eq_left h]
  rw [show min (a + b) rs.length - a = min b (rs.length - a) by omega]
  rw [← List.take_take]
  congr 1
  exact List.take_of_length_le (by rw [List.length_drop, List.length_map]; exact Nat.le_refl _)
def sp_layered : Sp := fun vs H Q _ => ∃ (a : Addr) (ps : List Post), vs = [.ref a] ∧ Posts H a ps ∧ ps.length < 64 ∧
  ∀ l qs Ls H', Same H H' → H l = none → H' l = some (.lst (qs.map V.ref)) → LayPosts H' qs Ls → LayersOf ps Ls → (∀ L ∈ Ls, L.Pairwise leP) → Q (.ref l) H'
def sp_lines_of : Sp := fun vs H Q _ => ∃ (w a : Nat) (qs : List Addr) (Ls : List (List Post)), vs = [.int (w : Nat), .ref a] ∧ H a = some (.lst (qs.map V.ref)) ∧ LayPosts H qs Ls ∧ w ≤ 1000 ∧ Ls.length ≤ 100 ∧ (∀ L ∈ Ls, L.length ≤ 100 ∧ ∀ p ∈ L, p.1 ≤ 1000 ∧ p.2 ≤ 1000) ∧
  ∀ l H', Same H H' → H l = none → H' l = some (.lst ((figS w :: Ls.map lineS).map V.str)) → Q (.ref l) H'
def sp_texts : Sp := fun vs H Q _ => ∃ (a b : Addr) (xs : List Str), vs = [.ref a, .ref b] ∧ H a = some (.lst (xs.map V.str)) ∧ H b = some (.lst (xs.map V.str)) ∧ xs.length ≤ 1000 ∧ Q (.bl true) H
def sp_net_is : Sp := fun vs H Q _ => ∃ (r l b : Addr) (w : Nat) (ps : List Post), vs = [.ref r, .int (w : Nat), .ref b] ∧ H r = some (.tup [.int (w : Nat), .ref l]) ∧ Posts H l ps ∧ Posts H b ps ∧ Q (.bl true) H
section
variable {P : Program} {w : World} {K : PySem.W.Frag} {mg : Str → Option Value} {base : Heap} {t : Adr}
theorem ok__law_texts (T : Txt K mg t) : FnOk P w K mg base CX0 1 t.a__law_texts t.fd__law_texts ["_law_found", "_law_due"] sp_texts := by
  refine T.F__law_texts.ok sc__law_texts (fun vs H Q E h => ?_) (fun cdv A outer s H vs Q E hr h => ?_)
  · obtain ⟨a, b, xs, rfl, _⟩ := h
    rfl
  · obtain ⟨a, b, xs, rfl, ha, hb, hl, k⟩ := h
    refine ⟨_, (pss_cons (ps_if (PW.pt (pw_or (pt_not (pt_val (pe_callB call_isi (by rfl) T.z_isinstance PyProof.Rows.boot_isinstance (pa_cons (pv 0) (pa_cons (pe_bltn (v := .ty "list") rfl T.z_list PyProof.Rows.boot_list rfl) pa_nil))))) (pw_or1 (pt_cmpR op_ne (pe_callB call_len_seq (by rfl) T.z_len PySem.boot_len (pa_cons (pv 0) pa_nil)) (pe_callB call_len_seq (by rfl) T.z_len PySem.boot_len (pa_cons (pv 1) pa_nil)) (nomark _))))) (pss_one (ps_ret pe_bl))
        pss_nil)
      (pss_cons (ps_for PassesOwn.never rfl (pi_range1 rfl T.z_range (pa_cons (pe_callB call_len_seq (by rfl) T.z_len PySem.boot_len (pa_cons (pv 1) pa_nil)) pa_nil)) (pg_name (i := 2) sc__law_texts.nd rfl (Or.inl rfl))
        (pss_one (ps_if (PW.pt (pw_or (pt_not (pt_val (pe_callB call_isi (by rfl) T.z_isinstance PyProof.Rows.boot_isinstance (pa_cons (pe_ix ix_list (pv 0) (pv 2) (fun _ _ => rfl)) (pa_cons (pe_bltn (v := .ty "str") rfl T.z_str PyProof.Rows.boot_str rfl) pa_nil))))) (pw_or1 (pt_cmpR op_ne (pe_ix ix_list (pv 0) (pv 2) (fun _ _ => rfl)) (pe_ix ix_list (pv 1) (pv 2) (fun _ _ => rfl)) (nomark _))))) (pss_one (ps_ret pe_bl))
          pss_nil)))
      (pss_one (ps_ret pe_bl)))), ?_⟩
    refine ⟨_, rfl, _, _, _, _, rfl, TyOf.lst ha, kit_ll, _, rfl, ?_⟩
    refine iteF ?_
    refine ⟨_, rfl, a, _, rfl, .inl (SqL.of ha), _, rfl, b, _, rfl, .inl (SqL.of hb), rfl, _, rfl, ?_⟩
    refine iteNS rfl ?_
    refine ⟨_, rfl, b, _, rfl, .inl (SqL.of hb), _, rfl, by omega, by rw [List.length_map]; omega, for_range (lo := 0) (n := (((xs.map V.str).length : Nat) : Int).toNat) (fun i σ H2 => ∃ (u : Option V), σ = [some (.ref a), some (.ref b), u] ∧ H2 = H)
      ⟨none, rfl, rfl⟩ ?_ ?_⟩
    · rintro i σ H2 hi ⟨u, rfl, rfl⟩
      have hi' : i < xs.length := by simpa using hi
      have hat : atI (xs.map V.str) (0 + (i : Int)) = some (.str xs[i]) := by rw [Int.zero_add]; exact atI_nat (by rw [List.getElem?_map, List.getElem?_eq_getElem hi']; rfl)
      refine ⟨_, rfl, _, rfl, a, _, _, _, rfl, rfl, SqL.of ha, hat, _, _, _, _, rfl, TyOf.str _, kit_ss, _, rfl, ?_⟩
      refine iteF ?_
      refine ⟨_, rfl, _, rfl, a, _, _, _, rfl, rfl, SqL.of ha, hat, _, rfl, _, rfl, b, _, _, _, rfl, rfl, SqL.of hb, hat, rfl, _, rfl, ?_⟩
      refine iteNS rfl ?_
      exact ⟨_, rfl, rfl⟩
    · rintro σ H2 ⟨u, rfl, rfl⟩
      exact k
theorem ok__law_net_is (T : Txt K mg t) : FnOk P w K mg base CX0 3 t.a__law_net_is t.fd__law_net_is ["_law_found", "_law_width", "_law_posts"] sp_net_is := by
  have G__law_whole : FnOk P w K mg base CX0 1 t.a__law_whole t.fd__law_whole ["_law_found"] sp_whole := ok__law_whole T
  have G__law_are_posts : FnOk P w K mg base CX0 2 t.a__law_are_posts t.fd__law_are_posts ["_law_found"] sp_are_posts := ok__law_are_posts T
  refine T.F__law_net_is.ok sc__law_net_is (fun vs H Q E h => ?_) (fun cdv A outer s H vs Q E hr h => ?_)
  · obtain ⟨r, l, b, w, ps, rfl, _⟩ := h
    rfl
  · obtain ⟨r, l, b, w, ps, rfl, er, hl, hb, k⟩ := h
    have hu64 := hr.units
    have hr__law_whole := hr.mono (j := 1) (by decide)
    have hr__law_are_posts := hr
    refine ⟨_, (pss_cons (ps_if (PW.pt (pw_or (pt_not (pt_val (pe_callB call_isi (by rfl) T.z_isinstance PyProof.Rows.boot_isinstance (pa_cons (pv 0) (pa_cons (pe_bltn (v := .ty "tuple") rfl T.z_tuple PyProof.Rows.boot_tuple rfl) pa_nil))))) (pw_or (pt_cmpR op_ne (pe_callB call_len_seq (by rfl) T.z_len PySem.boot_len (pa_cons (pv 0) pa_nil)) pe_int (nomark _)) (pw_or1 (pt_not (pt_val (pe_call G__law_whole hr__law_whole rfl T.m__law_whole T.F__law_whole.kp T.b__law_whole .nil pass0 (pa_cons (pe_ix ix_tup (pv 0) pe_int (fun _ _ => rfl)) pa_nil)))))))) (pss_one (ps_ret pe_bl))
        pss_nil)
      (pss_one (ps_ret (pe_and (pe_cmpR op_eq (pe_ix ix_tup (pv 0) pe_int (fun _ _ => rfl)) (pv 1) (nomark _)) (pe_and (pe_call G__law_are_posts hr__law_are_posts rfl T.m__law_are_posts T.F__law_are_posts.kp T.b__law_are_posts .nil pass0 (pa_cons (pe_ix ix_tup (pv 0) pe_int (fun _ _ => rfl)) pa_nil)) (pe_one (pe_cmpR (op_eqD hu64) (pe_ix ix_tup (pv 0) pe_int (fun _ _ => rfl)) (pv 2) (nomark _)))))))), ?_⟩
    refine ⟨_, rfl, _, _, _, _, rfl, TyOf.tup er, kit_tt, _, rfl, ?_⟩
    refine iteF ?_
    refine ⟨_, rfl, r, _, rfl, .inr (.inl (.inl er)), rfl, _, rfl, ?_⟩
    refine iteNS rfl ?_
    refine ⟨_, rfl, r, _, _, _, rfl, rfl, SqT.of er, atI_nat (j := 0) rfl, _, rfl, _, rfl, ?_⟩
    refine iteF ?_
    refine ⟨_, rfl, r, _, _, _, rfl, rfl, SqT.of er, atI_nat (j := 0) rfl, _, rfl, rfl, _, rfl, ?_⟩
    refine iteD rfl ?_
    refine ⟨_, rfl, r, _, _, _, rfl, rfl, SqT.of er, atI_nat (j := 1) rfl, l, ps, rfl, hl, _, rfl, ?_⟩
    refine iteT ?_
    refine ⟨_, rfl, r, _, _, _, rfl, rfl, SqT.of er, atI_nat (j := 1) rfl, _, rfl, _, _, posts_dt hl, posts_dt hb, shaped_posts _, shaped_posts _, ?_⟩
    rw [eqv_posts]
    exact k
theorem ok__law_lines_of (T : Txt K mg t) : FnOk P w K mg base CX0 1 t.a__law_lines_of t.fd__law_lines_of ["_law_width", "_law_rows"] sp_lines_of := by
  refine T.F__law_lines_of.ok sc__law_lines_of (fun vs H Q E h => ?_) (fun cdv A outer s H vs Q E hr h => ?_)
  · obtain ⟨w, a, qs, Ls, rfl, _⟩ := h
    rfl
  · obtain ⟨w, a, qs, Ls, rfl, ha, hL, hw, hLs, hb, k⟩ := h
    refine ⟨_, (pss_cons (ps_set (i := 2) sc__law_lines_of.nd rfl (Or.inl rfl) (pe_lst (pa_cons (pe_callTy call_str_int (by rfl) T.z_str PyProof.Rows.boot_str (pa_cons (pv 0) pa_nil)) pa_nil)))
      (pss_cons (ps_for PassesOwn.never rfl (pi_list (pv 1)) (pg_name (i := 3) sc__law_lines_of.nd rfl (Or.inl rfl))
        (pss_one (ps_expr (pe_bm PySem.F.plainAttrs_list PySem.F.slot_list_append PySem.F.type_list_append mt_append (pv 2) (pa_cons (pe_bm PySem.F.plainAttrs_str PySem.F.slot_str_join PySem.F.type_str_join mt_join pe_str (pa_cons (pe_lc rfl rfl (pi_list (pv 3)) (by rfl) (LcFree.nil (N := ["_law_post"]) [(".0", .local), ("_law_post", .local), ("str", .globalImplicit)] rfl rfl (by decide +kernel)) rfl (by decide +kernel) (by decide +kernel) (fun _ _ _ _ => (pg_name (i := 0) (show (["_law_post"] : List Str).Nodup by decide +kernel) rfl (Or.inl rfl))) (fun _ _ _ _ => (pe_op op_add_str (pe_op op_add_str (pe_callTy call_str_int (by rfl) T.z_str PyProof.Rows.boot_str (pa_cons (pe_ix (ix_tupK (K := K) rfl) (pv 0) pe_int (fun _ _ => rfl)) pa_nil)) pe_str) (pe_callTy call_str_int (by rfl) T.z_str PyProof.Rows.boot_str (pa_cons (pe_ix (ix_tupK (K := K) rfl) (pv 0) pe_int (fun _ _ => rfl)) pa_nil))))) pa_nil)) pa_nil)))))
      (pss_one (ps_ret (pv 2))))), ?_⟩
    have lg : ∀ n : Nat, n ≤ 1000 → ((n : Nat) : Int).natAbs.log2 < 1920 := fun n hn => by
      have z : n.log2 ≤ n := Nat.log2_le_self n
      have e : ((n : Nat) : Int).natAbs = n := Int.natAbs_natCast n
      rw [e]
      omega
    have hql := hL.1
    refine ⟨_, rfl, _, rfl, lg w hw, (by show 1 ≤ sizeLine; decide), fun l hl => ?_⟩
    have el : (upd H l (.lst [V.str (Str.ofString (toString ((w : Nat) : Int)))])) l = some (.lst ([figS w].map V.str)) := by rw [upd_same, figS_str]; rfl
    have S0 := Same.new (o := .lst [V.str (Str.ofString (toString ((w : Nat) : Int)))]) hl
    refine ⟨_, rfl, a, rfl, ⟨_, SqL.of (S0 _ _ ha)⟩, for_list (K := K) (a := a) (xs := qs.map V.ref) (fun i σ Hi => ∃ (u : Option V), σ = [some (.int (w : Nat)), some (.ref a), some (.ref l), u] ∧ Same H Hi ∧ Hi l = some (.lst ((figS w :: (Ls.take i).map lineS).map V.str)))
      ⟨none, rfl, S0, el⟩ (fun i σ Hi _ ⟨_, _, si, _⟩ => SqL.of (si _ _ ha)) ?_ ?_⟩
    · rintro i x σ Hi hi ⟨u, rfl, si, ei⟩
      obtain ⟨q, hq, rfl⟩ := map_get hi
      have hil := (List.getElem?_eq_some_iff.mp hq).1
      have hLi : Ls[i]? = some Ls[i] := List.getElem?_eq_getElem (by omega)
      generalize Ls[i] = L at hLi
      obtain ⟨hLl, hLb⟩ := hb L (List.mem_of_getElem? hLi)
      obtain ⟨rs, er, tr⟩ := (hL.2 i q L hq hLi).mono si
      have hrl := tr.1
      refine ⟨_, rfl, .inl ⟨rfl, _, SqL.of ei⟩, rfl, _, rfl, q, rfl, ⟨_, SqL.of er⟩, fun D hD => lc_list (K := K) (a := q) (xs := rs.map V.ref) (fun j σ3 H3 => ∃ (u : Option V), σ3 = [u] ∧ Same Hi H3 ∧ H3 D = some (.lst (((L.take j).map postS).map V.str)))
        ⟨none, rfl, Same.new hD, upd_same⟩ (fun j σ3 H3 _ ⟨_, _, s3, _⟩ => SqL.of (s3 _ _ er)) ?_ ?_⟩
      · rintro j x σ3 H3 hj ⟨u, rfl, s3, e3⟩
        have hjl := (List.getElem?_eq_some_iff.mp hj).1
        obtain ⟨r, hr', rfl⟩ := map_get hj
        obtain ⟨p, hp, ep⟩ := tr.get hr'
        obtain ⟨b1, b2⟩ := hLb p (List.mem_of_getElem? hp)
        have ep3 := s3 _ _ ep
        have d1 := decL_length p.1
        have d2 := decL_length p.2
        have f1 := figS_length p.1
        have f2 := figS_length p.2
        have fc : (":" : Str).length = 1 := by decide +kernel
        refine ⟨_, rfl, r, _, _, _, rfl, rfl, SqT.of ep3, atI_nat (j := 0) rfl, _, rfl, lg p.1 b1, _, _, rfl, rfl, ?_, _, rfl, r, _, _, _, rfl, rfl, SqT.of ep3, atI_nat (j := 1) rfl, _, rfl, lg p.2 b2, _, _, rfl, rfl, ?_, ?_⟩
        · rw [figS_str]
          exact size_small (by omega)
        · rw [figS_str, figS_str, Str.length_append]
          exact size_small (by omega)
        · rw [figS_str, figS_str]
          refine LcEnd.mk e3 (big' (by rw [List.length_map, List.length_map, List.length_take]; omega)) hjl ⟨_, rfl, s3.upd hD, ?_⟩
          rw [upd_same, take_snoc hp, List.map_append, List.map_append]
          rfl
      · rintro σ3 H3 ⟨u, rfl, s3, e3⟩
        rw [List.length_map, hrl, List.take_length] at e3
        have ei3 := s3 _ _ ei
        refine ⟨_, D, L.map postS, rfl, rfl, SqL.of e3, join_ok (B := 2003) (fun y hy => ?_) ?_, l, _, _, rfl, rfl, ei3, big' (by rw [List.length_map, List.length_cons, List.length_map, List.length_take]; omega), ?_⟩
        · obtain ⟨p, hp, rfl⟩ := List.mem_map.mp hy
          have z := postS_length p
          have := hLb p hp
          omega
        · have e0 : (" " : Str).length = 1 := by decide +kernel
          rw [List.length_map, e0]
          omega
        · refine ⟨_, rfl, (si.trans s3).upd hl, ?_⟩
          rw [upd_same, take_snoc hLi, List.map_append, List.map_cons, List.map_cons, List.map_append]
          rfl
    · rintro σ Hi ⟨u, rfl, si, ei⟩
      rw [List.length_map, hql, List.take_length] at ei
      exact ⟨_, rfl, k l Hi si hl ei⟩
theorem ok__law_layered (T : Txt K mg t) : FnOk P w K mg base CX0 1 t.a__law_layered t.fd__law_layered ["_law_posts"] sp_layered := by
  refine T.F__law_layered.ok sc__law_layered (fun vs H Q E h => ?_) (fun cdv A outer s H vs Q E hr h => ?_)
  · obtain ⟨a, ps, rfl, _⟩ := h
    rfl
  · obtain ⟨a, ps, rfl, hP, hpl, k⟩ := h
    refine ⟨_, (pss_cons (ps_set (i := 1) sc__law_layered.nd rfl (Or.inl rfl) (pe_lst pa_nil))
      (pss_cons (ps_for PassesOwn.never rfl (pi_list (pv 0)) (pg_name (i := 2) sc__law_layered.nd rfl (Or.inl rfl))
        (pss_cons (ps_set (i := 3) sc__law_layered.nd rfl (Or.inl rfl) pe_int)
        (pss_cons (ps_for PassesOwn.never rfl (pi_range1 rfl T.z_range (pa_cons (pe_callB call_len_seq (by rfl) T.z_len PySem.boot_len (pa_cons (pv 1) pa_nil)) pa_nil)) (pg_name (i := 4) sc__law_layered.nd rfl (Or.inl rfl))
          (pss_one (ps_for PassesOwn.never rfl (pi_list (pe_ix ix_list (pv 1) (pv 4) (fun _ _ => rfl))) (pg_name (i := 5) sc__law_layered.nd rfl (Or.inl rfl))
            (pss_one (ps_if (PW.pt (pw_or (pt_cmpR op_in_seq (pe_ix ix_tup (pv 5) pe_int (fun _ _ => rfl)) (pv 2) rfl) (pw_or1 (pt_cmpR op_in_seq (pe_ix ix_tup (pv 5) pe_int (fun _ _ => rfl)) (pv 2) rfl)))) (pss_one (ps_set (i := 3) sc__law_layered.nd rfl (Or.inl rfl) (pe_op op_add (pv 4) pe_int)))
              pss_nil)))))
        (pss_cons (ps_if (pt_cmpR op_eq (pv 3) (pe_callB call_len_seq (by rfl) T.z_len PySem.boot_len (pa_cons (pv 1) pa_nil)) (nomark _)) (pss_one (ps_expr (pe_bm PySem.F.plainAttrs_list PySem.F.slot_list_append PySem.F.type_list_append mt_append (pv 1) (pa_cons (pe_lst pa_nil) pa_nil))))
          pss_nil)
        (pss_one (ps_expr (pe_bm PySem.F.plainAttrs_list PySem.F.slot_list_append PySem.F.type_list_append mt_append (pe_ix ix_list (pv 1) (pv 3) (fun _ _ => rfl)) (pa_cons (pv 2) pa_nil))))))))
      (pss_one (ps_ret (pe_lc rfl rfl (pi_list (pv 1)) (by rfl) (LcFree.nil (N := ["_law_row"]) [(".0", .local), ("_law_row", .local), ("sorted", .globalImplicit)] rfl rfl (by decide +kernel)) rfl (by decide +kernel) (by decide +kernel) (fun _ _ _ _ => (pg_name (i := 0) (show (["_law_row"] : List Str).Nodup by decide +kernel) rfl (Or.inl rfl))) (fun _ _ _ _ => (pe_callB (call_sortedT (K := K) rfl) (by rfl) T.z_sorted PyProof.Rows.boot_sorted (pa_cons (pv 0) pa_nil)))))))), ?_⟩
    refine ⟨Nat.zero_le _, fun fo hfo => ?_⟩
    have S1 := Same.new (o := .lst []) hfo
    obtain ⟨rs, ha, ht⟩ := id hP
    have hrl := ht.1
    have hts : ∀ (i : Nat) r p, rs[i]? = some r → ps[i]? = some p → H r = some (.tup [.int (p.1 : Nat), .int (p.2 : Nat)]) := ht.2
    refine ⟨_, rfl, a, rfl, ⟨_, SqL.of (S1 _ _ ha)⟩, for_list (K := K) (a := a) (xs := rs.map V.ref) (fun i σ Hi => ∃ (u2 u3 u4 u5 : Option V) (ls : List Addr), σ = [some (.ref a), some (.ref fo), u2, u3, u4, u5] ∧ Same H Hi ∧ Hi fo = some (.lst (ls.map V.ref)) ∧ ls.length = deepTo ps i ∧ ls.Nodup ∧ fo ∉ ls ∧ (∀ l ∈ ls, H l = none) ∧ ∀ (k : Nat) l, ls[k]? = some l → Posts Hi l (bucket ps i k))
      ⟨none, none, none, none, [], rfl, S1, upd_same, rfl, List.nodup_nil, by simp, by simp, fun k l z => by simp at z⟩ (fun i σ Hi _ ⟨_, _, _, _, _, _, si, _⟩ => SqL.of (si _ _ ha)) ?_ ?_⟩
    · rintro i x σ Hi hi ⟨u2, u3, u4, u5, ls, rfl, si, ef, hll, hnd, hfl, hnew, hB⟩
      have hil := (List.getElem?_eq_some_iff.mp hi).1
      rw [List.length_map, hrl] at hil
      obtain ⟨r, hr', rfl⟩ := map_get hi
      obtain ⟨p, hp, er⟩ := ht.get hr'
      have hgp := gP_get hp
      have hdi := num_le_deep (ps := ps) hil
      have hdd := deep_le (ps := ps) i (by omega)
      have hdn : deepTo ps (i + 1) = max (deepTo ps i) (numAt ps i + 1) := rfl
      have eri := si _ _ er
      -- the place
      refine seq_by (fun σ' Hx => σ' = [some (.ref a), some (.ref fo), some (.ref r), some (.int 0), u4, u5] ∧ Hx = Hi) (fun N hN' => hN' _ _ ⟨rfl, rfl⟩) (fun σ' Hx ⟨hσ, hHx⟩ => ?_)
      subst hσ hHx
      refine seq_by (fun σ' Hy => ∃ v4 v5 : Option V, σ' = [some (.ref a), some (.ref fo), some (.ref r), some (.int ((numAt ps i : Nat) : Int)), v4, v5] ∧ Hy = Hx) (fun N hN' => ?_) (fun σ' Hy ⟨v4, v5, hσ, hHy⟩ => ?_)
      · refine ⟨_, rfl, fo, _, rfl, .inl (SqL.of ef), _, rfl, by omega, by rw [List.length_map]; omega, for_range (lo := 0) (n := ((((ls.map V.ref).length : Nat) : Int)).toNat) (fun kk σ Hz => ∃ v4 v5 : Option V, σ = [some (.ref a), some (.ref fo), some (.ref r), some (.int ((placeTo ps i kk : Nat) : Int)), v4, v5] ∧ Hz = Hx)
          ⟨_, _, rfl, rfl⟩ ?_ ?_⟩
        · rintro kk σ Hz hk ⟨v4, v5, rfl, rfl⟩
          rw [List.length_map, Int.toNat_natCast] at hk
          have hk' : ls[kk]? = some ls[kk] := List.getElem?_eq_getElem hk
          generalize ls[kk] = lk at hk'
          obtain ⟨rl, el, tl⟩ := hB kk lk hk'
          have hrl2 := tl.1
          have bk : atI (ls.map V.ref) (0 + (kk : Int)) = some (.ref lk) := by rw [Int.zero_add]; exact atI_nat (by rw [List.getElem?_map, hk']; rfl)
          refine ⟨_, rfl, _, rfl, fo, _, _, _, rfl, rfl, SqL.of ef, bk, lk, rfl, ⟨_, SqL.of el⟩, for_list (K := K) (a := lk) (xs := rl.map V.ref) (fun m σ Hm => ∃ v5 : Option V, σ = [some (.ref a), some (.ref fo), some (.ref r), some (.int (((if (((bucket ps i kk).take m).any fun q => shareB q (gP ps i)) = true then kk + 1 else placeTo ps i kk : Nat)) : Int)), some (.int (0 + (kk : Int))), v5] ∧ Hm = Hz)
            ⟨_, rfl, rfl⟩ (fun m σ Hm _ ⟨_, _, e⟩ => by rw [e]; exact SqL.of el) ?_ ?_⟩
          · rintro m x σ Hm hm ⟨v5, rfl, rfl⟩
            obtain ⟨r1, hr1, rfl⟩ := map_get hm
            obtain ⟨q, hq, eq⟩ := tl.get hr1
            have es : shareB q (gP ps i) = (onL q.1 (gP ps i) || onL q.2 (gP ps i)) := rfl
            rw [any_take hq, es, hgp]
            refine ⟨_, rfl, r1, _, _, _, rfl, rfl, SqT.of eq, atI_nat (j := 0) rfl, _, rfl, r, _, rfl, .inr (SqT.of eri), rfl, rfl, _, rfl, ?_⟩
            rw [if_neg Bool.false_ne_true, inV_pair]
            cases c1 : onL q.1 p with
            | true =>
              refine iteT ?_
              refine ⟨_, rfl, _, _, rfl, rfl, some (.ref r1), ?_, rfl⟩
              rw [Bool.true_or, Bool.or_true, if_pos rfl]
              show _ = [some (V.ref a), some (V.ref fo), some (V.ref r), some (V.int ((kk + 1 : Nat) : Int)), some (V.int (0 + (kk : Int))), some (V.ref r1)]
              rw [show ((kk + 1 : Nat) : Int) = 0 + (kk : Int) + 1 by omega]
              rfl
            | false =>
              refine iteF ?_
              refine ⟨_, rfl, r1, _, _, _, rfl, rfl, SqT.of eq, atI_nat (j := 1) rfl, _, rfl, r, _, rfl, .inr (SqT.of eri), rfl, rfl, _, rfl, ?_⟩
              rw [if_neg Bool.false_ne_true, inV_pair]
              cases c2 : onL q.2 p with
              | true =>
                refine iteT ?_
                refine ⟨_, rfl, _, _, rfl, rfl, some (.ref r1), ?_, rfl⟩
                rw [Bool.or_true, Bool.or_true, if_pos rfl]
                show _ = [some (V.ref a), some (V.ref fo), some (V.ref r), some (V.int ((kk + 1 : Nat) : Int)), some (V.int (0 + (kk : Int))), some (V.ref r1)]
                rw [show ((kk + 1 : Nat) : Int) = 0 + (kk : Int) + 1 by omega]
                rfl
              | false =>
                refine iteF ?_
                refine ⟨some (.ref r1), ?_, rfl⟩
                rw [Bool.or_false, Bool.or_false]
                rfl
          · rintro σ Hm ⟨v5, rfl, rfl⟩
            rw [List.length_map, hrl2, List.take_length]
            exact ⟨_, _, rfl, rfl⟩
        · rintro σ Hz ⟨v4, v5, rfl, rfl⟩
          rw [List.length_map, Int.toNat_natCast, hll, place_num hil]
          exact hN' _ _ ⟨_, _, rfl, rfl⟩
      subst hσ hHy
      refine seq_by (fun σ' Hx => σ' = [some (.ref a), some (.ref fo), some (.ref r), some (.int ((numAt ps i : Nat) : Int)), v4, v5] ∧ ∃ ls' : List Addr, Same H Hx ∧ Hx fo = some (.lst (ls'.map V.ref)) ∧ ls'.length = deepTo ps (i + 1) ∧ ls'.Nodup ∧ fo ∉ ls' ∧ (∀ l ∈ ls', H l = none) ∧ ∀ (k : Nat) l, ls'[k]? = some l → Posts Hx l (bucket ps i k)) (fun N hN' => ?_) (fun σ' Hx ⟨hσ, ls', sx, ex, hll', hnd', hfl', hnew', hBx⟩ => ?_)
      · refine ⟨_, rfl, _, rfl, fo, _, rfl, .inl (SqL.of ef), rfl, _, rfl, ?_⟩
        by_cases c : numAt ps i = deepTo ps i
        · refine iteD (by rw [List.length_map, hll, c]) ?_
          refine ⟨_, rfl, .inl ⟨rfl, _, SqL.of ef⟩, Nat.zero_le _, fun z hz => ⟨fo, _, _, rfl, rfl, Same.new hz _ _ ef, big' (by rw [List.length_map]; omega), ?_⟩⟩
          have Sz := Same.new (o := .lst []) hz
          have nzf : z ≠ fo := (ne_of_none ef hz).symm
          have nzl : z ∉ ls := fun m => by
            obtain ⟨kk, hk⟩ := List.mem_iff_getElem?.mp m
            obtain ⟨_, e, _⟩ := hB kk z hk
            rw [hz] at e
            cases e
          refine hN' _ _ ⟨rfl, ls ++ [z], (si.trans Sz).upd hfo, ?_, ?_, ?_, ?_, ?_, ?_⟩
          · rw [upd_same, List.map_append]
            rfl
          · rw [List.length_append, hll]
            show _ + 1 = _
            omega
          · rw [List.nodup_append]
            exact ⟨hnd, by simp, fun x hx y hy => by rw [List.mem_singleton] at hy; subst hy; exact fun e => nzl (e ▸ hx)⟩
          · intro m
            rcases List.mem_append.mp m with m | m
            · exact hfl m
            · rw [List.mem_singleton] at m
              exact nzf m.symm
          · intro l m
            rcases List.mem_append.mp m with m | m
            · exact hnew l m
            · rw [List.mem_singleton] at m
              rw [m]
              exact si.free hz
          · intro kk l hk
            rw [List.getElem?_append] at hk
            by_cases c3 : kk < ls.length
            · rw [if_pos c3] at hk
              exact ((hB kk l hk).mono Sz).keepL (Sz _ _ ef) (fun e => hfl (by rw [← e]; exact List.mem_of_getElem? hk))
            · rw [if_neg c3] at hk
              have ek : kk - ls.length = 0 := by
                match hm : kk - ls.length, hk with
                | 0, _ => rfl
                | m + 1, hk => simp at hk
              rw [ek] at hk
              cases hk
              rw [bucket_empty (by omega)]
              exact ⟨[], by rw [upd_ne nzf, upd_same]; rfl, rfl, fun i r p u v => by simp at u⟩
        · refine iteDn (fun z => c ?_) ?_
          · have z' := V.int.inj z
            rw [List.length_map, hll] at z'
            omega
          refine hN' _ _ ⟨rfl, ls, si, ef, by rw [hll]; omega, hnd, hfl, hnew, hB⟩
      subst hσ
      have hkn : numAt ps i < ls'.length := by omega
      have hk : ls'[numAt ps i]? = some ls'[numAt ps i] := List.getElem?_eq_getElem hkn
      generalize ls'[numAt ps i] = ln at hk
      obtain ⟨rl, el, tl⟩ := hBx _ _ hk
      have hlm : ln ∈ ls' := List.mem_of_getElem? hk
      have nlf : ln ≠ fo := fun e => hfl' (e ▸ hlm)
      have brl : rl.length ≤ i := by
        rw [tl.1]
        unfold bucket
        rw [List.length_map]
        exact Nat.le_trans (List.length_filter_le _ _) (by rw [List.length_range]; exact Nat.le_refl _)
      refine ⟨_, rfl, _, rfl, fo, _, _, _, rfl, rfl, SqL.of ex, (show atI (ls'.map V.ref) ((numAt ps i : Nat) : Int) = some (.ref ln) from atI_nat (by rw [List.getElem?_map, hk]; rfl)), .inl ⟨rfl, _, SqL.of el⟩, _, rfl, ln, _, _, rfl, rfl, el, big' (by rw [List.length_map]; omega), ?_⟩
      refine ⟨_, _, _, _, ls', rfl, sx.upd (hnew' _ hlm), by rw [upd_ne nlf.symm]; exact ex, hll', hnd', hfl', hnew', fun kk l hk' => ?_⟩
      rw [bucket_succ]
      by_cases c : numAt ps i = kk
      · subst c
        rw [hk] at hk'
        cases hk'
        rw [if_pos rfl, hgp]
        refine ⟨rl ++ [r], by rw [upd_same, List.map_append]; rfl, Tups.snoc (tl.keep (tup_keep el)) ?_⟩
        have nrl : r ≠ ln := fun z => by have e := sx _ _ er; rw [z, el] at e; cases e
        rw [upd_ne nrl]
        exact sx _ _ er
      · rw [if_neg c, List.append_nil]
        refine (hBx kk l hk').keepL el fun e => c ?_
        rw [e] at hk'
        exact (List.getElem?_inj hkn hnd').mp (hk.trans hk'.symm)
    · rintro σ Hi ⟨u2, u3, u4, u5, ls, rfl, si, ef, hll, hnd, hfl, hnew, hB⟩
      rw [List.length_map, hrl] at hll hB
      have hdl := deep_le (ps := ps) ps.length (Nat.le_refl _)
      refine ⟨_, rfl, fo, rfl, ⟨_, SqL.of ef⟩, fun D hD => lc_list (K := K) (a := fo) (xs := ls.map V.ref) (fun j σ3 H3 => ∃ (u : Option V) (qs : List Addr) (Ls : List (List Post)), σ3 = [u] ∧ Same Hi H3 ∧ H3 D = some (.lst (qs.map V.ref)) ∧ LayPosts H3 qs Ls ∧ Ls.length = j ∧ (∀ q ∈ qs, q ≠ D) ∧ ∀ (k : Nat) L, Ls[k]? = some L → L.Perm (bucket ps ps.length k) ∧ L.Pairwise leP)
        ⟨none, [], [], rfl, Same.new hD, upd_same, ⟨rfl, fun k q L z => by simp at z⟩, rfl, by simp, fun k L z => by simp at z⟩ (fun j σ3 H3 _ ⟨_, _, _, _, s3, _⟩ => SqL.of (s3 _ _ ef)) ?_ ?_⟩
      · rintro j x σ3 H3 hj ⟨u, qs, Ls, rfl, s3, e3, l3, hLj, nqD, hLs⟩
        have hjl := (List.getElem?_eq_some_iff.mp hj).1
        obtain ⟨l, hl', rfl⟩ := map_get hj
        obtain ⟨rl, el, tl⟩ := (hB j l hl').mono s3
        have brl : rl.length < 64 := by
          rw [tl.1]
          unfold bucket
          rw [List.length_map]
          exact Nat.lt_of_le_of_lt (List.length_filter_le _ _) (by rw [List.length_range]; exact hpl)
        have hql := l3.1
        rw [List.length_map] at hjl
        refine ⟨_, rfl, l, rl, _, rfl, SqL.of el, tl, brl, fun l' rs' ps' hl'n t' hperm hpw => ?_⟩
        have S4 := Same.new (o := .lst (rs'.map V.ref)) hl'n
        have e4 := S4 _ _ e3
        have nlD : l' ≠ D := (ne_of_none e3 hl'n).symm
        refine LcEnd.mk e4 (big' (by rw [List.length_map]; omega)) (by rw [List.length_map]; exact hjl) ⟨_, qs ++ [l'], Ls ++ [ps'], rfl, (s3.trans S4).upd hD, ?_, ?_, by rw [List.length_append, hLj]; rfl, ?_, ?_⟩
        · rw [upd_same, List.map_append]
          rfl
        · refine LayPosts.snoc ⟨l3.1, fun k q L a b => ((l3.2 k q L a b).mono S4).keepL e4 (nqD q (List.mem_of_getElem? a))⟩ ?_
          exact Posts.keepL ⟨rs', upd_same, t'.mono S4⟩ e4 nlD
        · intro q m
          rcases List.mem_append.mp m with m | m
          · exact nqD q m
          · rw [List.mem_singleton.mp m]
            exact nlD
        · intro k L hk
          rw [List.getElem?_append] at hk
          by_cases c : k < Ls.length
          · rw [if_pos c] at hk
            exact hLs k L hk
          · rw [if_neg c] at hk
            have ek : k - Ls.length = 0 := by
              match hm : k - Ls.length, hk with
              | 0, _ => rfl
              | m + 1, hk => simp at hk
            rw [ek] at hk
            cases hk
            have e : k = j := by omega
            rw [e]
            exact ⟨hperm, hpw⟩
      · rintro σ3 H3 ⟨u, qs, Ls, rfl, s3, e3, l3, hLj, nqD, hLs⟩
        rw [List.length_map] at hLj
        refine k D qs Ls H3 (si.trans s3) (si.free hD) e3 l3 ⟨by rw [hLj, hll], fun k L z => (hLs k L z).1⟩ fun L m => ?_
        obtain ⟨k, hk⟩ := List.mem_iff_getElem?.mp m
        exact (hLs k L hk).2
theorem layers_same {ps : List Post} {Ls Ls' : List (List Post)} (h : LayersOf ps Ls) (h' : LayersOf ps Ls') (s : ∀ L ∈ Ls, L.Pairwise leP) (s' : ∀ L ∈ Ls', L.Pairwise leP) : Ls = Ls' := by
  refine List.ext_getElem (by rw [h.len, h'.len]) fun i h1 h2 => ?_
  have e1 : Ls[i]? = some Ls[i] := List.getElem?_eq_getElem h1
  have e2 : Ls'[i]? = some Ls'[i] := List.getElem?_eq_getElem h2
  exact sorted_posts ((h.at_ i _ e1).trans (h'.at_ i _ e2).symm) (s _ (List.getElem_mem h1)) (s' _ (List.getElem_mem h2))
theorem ok_law (T : Txt K mg t) : FnOk P w K mg base CX0 8 t.a_law t.fd_law ["_law_script"] (spLaw K) := by
  have G__law_at : FnOk P w K mg base CX0 1 t.a__law_at t.fd__law_at ["_law_script", "_law_k"] sp_at := ok__law_at T
  have G__law_posts_by : FnOk P w K mg base CX0 1 t.a__law_posts_by t.fd__law_posts_by ["_law_width", "_law_cells"] sp_posts_by := ok__law_posts_by T
  have G__law_layered : FnOk P w K mg base CX0 1 t.a__law_layered t.fd__law_layered ["_law_posts"] sp_layered := ok__law_layered T
  have G__law_lines_of : FnOk P w K mg base CX0 1 t.a__law_lines_of t.fd__law_lines_of ["_law_width", "_law_rows"] sp_lines_of := ok__law_lines_of T
  have G__law_texts : FnOk P w K mg base CX0 1 t.a__law_texts t.fd__law_texts ["_law_found", "_law_due"] sp_texts := ok__law_texts T
  have G__law_net_is : FnOk P w K mg base CX0 3 t.a__law_net_is t.fd__law_net_is ["_law_found", "_law_width", "_law_posts"] sp_net_is := ok__law_net_is T
  have G__law_stays_so : FnOk P w K mg base CX0 1 t.a__law_stays_so t.fd__law_stays_so ["_law_handed", "_law_own"] sp_stays := ok__law_stays_so T
  have G_shown : FnOk P w K mg base CX0 3 t.a_shown t.fd_shown ["width", "posts"] sp_shown := ok_shown T
  have G_read : FnOk P w K mg base CX0 3 t.a_read t.fd_read ["lines"] sp_read := ok_read T
  refine T.F_law.ok sc_law (fun vs H Q E h => ?_) (fun cdv A outer s H vs Q E hr h => ?_)
  · obtain ⟨a, ns, rfl, _⟩ := h
    rfl
  · obtain ⟨a, ns, rfl, hS, hlen, k⟩ := h
    have hr__law_at := hr.mono (j := 1) (by decide)
    have hr__law_posts_by := hr.mono (j := 1) (by decide)
    have hr__law_layered := hr.mono (j := 1) (by decide)
    have hr__law_lines_of := hr.mono (j := 1) (by decide)
    have hr__law_texts := hr.mono (j := 1) (by decide)
    have hr__law_net_is := hr.mono (j := 3) (by decide)
    have hr__law_stays_so := hr.mono (j := 1) (by decide)
    have hr_shown := hr.mono (j := 3) (by decide)
    have hr_read := hr.mono (j := 3) (by decide)
    refine ⟨_, (pss_cons (ps_set (i := 0) sc_law.nd rfl (Or.inl rfl) (pe_slice sl_list (pv 0) po_none (po_some pe_int)))
      (pss_cons (ps_set (i := 1) sc_law.nd rfl (Or.inl rfl) (pe_op op_add pe_int (pe_op op_mod (pe_call G__law_at hr__law_at rfl T.m__law_at T.F__law_at.kp T.b__law_at .nil pass0 (pa_cons (pv 0) (pa_cons pe_int pa_nil))) pe_int)))
      (pss_cons (ps_if (pt_cmpR op_eq (pe_op op_mod (pe_op op_fdiv (pe_call G__law_at hr__law_at rfl T.m__law_at T.F__law_at.kp T.b__law_at .nil pass0 (pa_cons (pv 0) (pa_cons pe_int pa_nil))) pe_int) pe_int) pe_int (nomark _)) (pss_one (ps_set (i := 1) sc_law.nd rfl (Or.inl rfl) (pe_op op_sub pe_int (pe_op op_mod (pe_op op_fdiv (pe_call G__law_at hr__law_at rfl T.m__law_at T.F__law_at.kp T.b__law_at .nil pass0 (pa_cons (pv 0) (pa_cons pe_int pa_nil))) pe_int) pe_int))))
        pss_nil)
      (pss_cons (ps_set (i := 2) sc_law.nd rfl (Or.inr rfl) (pe_call G__law_posts_by hr__law_posts_by rfl T.m__law_posts_by T.F__law_posts_by.kp T.b__law_posts_by .nil pass0 (pa_cons (pv 1) (pa_cons (pe_slice sl_list (pv 0) (po_some pe_int) po_none) pa_nil))))
      (pss_cons (ps_set (i := 3) sc_law.nd rfl (Or.inl rfl) (pe_call G__law_layered hr__law_layered rfl T.m__law_layered T.F__law_layered.kp T.b__law_layered .nil pass0 (pa_cons (pv 2) pa_nil)))
      (pss_cons (ps_set (i := 4) sc_law.nd rfl (Or.inl rfl) (pe_call G__law_lines_of hr__law_lines_of rfl T.m__law_lines_of T.F__law_lines_of.kp T.b__law_lines_of .nil pass0 (pa_cons (pv 1) (pa_cons (pv 3) pa_nil))))
      (pss_cons (ps_set (i := 5) sc_law.nd rfl (Or.inl rfl) (pe_call G_shown hr_shown rfl T.m_shown T.F_shown.kp T.b_shown .nil pass0 (pa_cons (pv 1) (pa_cons (pe_callTy call_list_of (by rfl) T.z_list PyProof.Rows.boot_list (pa_cons (pv 2) pa_nil)) pa_nil))))
      (pss_cons (ps_if (pt_not (pt_val (pe_call G__law_texts hr__law_texts rfl T.m__law_texts T.F__law_texts.kp T.b__law_texts .nil pass0 (pa_cons (pv 5) (pa_cons (pv 4) pa_nil))))) (pss_one (ps_ret pe_bl))
        pss_nil)
      (pss_cons (ps_set (i := 6) sc_law.nd rfl (Or.inl rfl) (pe_lst pa_nil))
      (pss_cons (ps_for PassesOwn.never rfl (pi_list (pv 3)) (pg_name (i := 7) sc_law.nd rfl (Or.inl rfl))
        (pss_one (ps_expr (pe_bm PySem.F.plainAttrs_list PySem.F.slot_list_extend PySem.F.type_list_extend mt_extend (pv 6) (pa_cons (pv 7) pa_nil)))))
      (pss_cons (ps_set (i := 8) sc_law.nd rfl (Or.inl rfl) (pe_callTy call_list_of (by rfl) T.z_list PyProof.Rows.boot_list (pa_cons (pv 4) pa_nil)))
      (pss_cons (ps_if (PW.pt (pw_or (pt_not (pt_val (pe_call G__law_net_is hr__law_net_is rfl T.m__law_net_is T.F__law_net_is.kp T.b__law_net_is .nil pass0 (pa_cons (pe_call G_read hr_read rfl T.m_read T.F_read.kp T.b_read .nil pass0 (pa_cons (pv 8) pa_nil)) (pa_cons (pv 1) (pa_cons (pv 6) pa_nil)))))) (pw_or1 (pt_not (pt_val (pe_call G__law_stays_so hr__law_stays_so rfl T.m__law_stays_so T.F__law_stays_so.kp T.b__law_stays_so .nil pass0 (pa_cons (pv 8) (pa_cons (pv 4) pa_nil)))))))) (pss_one (ps_ret pe_bl))
        pss_nil)
      (pss_cons (ps_set (i := 9) sc_law.nd rfl (Or.inr rfl) (pe_op op_add pe_int (pe_op op_mod (pe_call G__law_at hr__law_at rfl T.m__law_at T.F__law_at.kp T.b__law_at .nil pass0 (pa_cons (pv 0) (pa_cons pe_int pa_nil))) pe_int)))
      (pss_cons (ps_setLc (i := 10) sc_law.nd rfl (Or.inl rfl) (by rfl) rfl rfl (pi_rangeS rfl T.z_range (pa_cons pe_int (pa_cons (pe_callB call_len_seq (by rfl) T.z_len PySem.boot_len (pa_cons (pv 2) pa_nil)) (pa_cons (pv 9) pa_nil)))) (by rfl) (LcFree.two (N := ["_law_k", "_law_size", "_law_posts"]) (k1 := 9) (k2 := 2) [(".0", .local), ("_law_k", .local), ("_law_posts", .cell), ("_law_size", .cell)] rfl rfl (by decide +kernel) rfl rfl rfl rfl rfl rfl (by rfl) (by rfl) (by decide +kernel) (by decide +kernel) (by decide +kernel)) rfl (by decide +kernel) (by decide +kernel) (fun _ _ _ _ => (pg_name (i := 0) (show (["_law_k", "_law_size", "_law_posts"] : List Str).Nodup by decide +kernel) rfl (Or.inl rfl))) (fun _ _ _ _ => (pe_slice (sl_listK (K := K) rfl) (pv 2) (po_some (pv 0)) (po_some (pe_op op_add (pv 0) (pv 1))))))
      (pss_one (ps_ret (pe_call G__law_net_is hr__law_net_is rfl T.m__law_net_is T.F__law_net_is.kp T.b__law_net_is .nil pass0 (pa_cons (pe_call G_read hr_read rfl T.m_read T.F_read.kp T.b_read .nil pass0 (pa_cons (pe_call G__law_lines_of hr__law_lines_of rfl T.m__law_lines_of T.F__law_lines_of.kp T.b__law_lines_of .nil pass0 (pa_cons (pv 1) (pa_cons (pv 10) pa_nil))) pa_nil)) (pa_cons (pv 1) (pa_cons (pv 2) pa_nil)))))))))))))))))))), ?_⟩
    refine ⟨_, rfl, _, rfl, a, _, rfl, hS, fun a1 hn1 => ?_⟩
    have c1 : Ints (upd H a1 (.lst (cutV (ns.map V.int) none (some 500)))) a1 (cutI ns none (some 500)) := cut_at
    have l1 := cutI_length ns none (some 500)
    generalize cutI ns none (some 500) = ns1 at c1 l1
    generalize upd H a1 (.lst (cutV (ns.map V.int) none (some 500))) = H1 at c1 ⊢
    refine ⟨_, rfl, a1, 0, ns1, rfl, c1, by omega, _, _, rfl, rfl, (by show (0 : Int) < 24; decide), _, _, rfl, rfl, ?_⟩
    dsimp only [gName]
    refine seq_by (fun σ' Hx => ∃ wd : Nat, 1 ≤ wd ∧ wd ≤ 1000 ∧ σ' = [some (.ref a1), some (.int (wd : Nat)), none, none, none, none, none, none, none, none, none] ∧ Hx = H1) (fun N hN' => ?_) (fun σ' Hx ⟨wd, hw1, hw2, hσ, hHx⟩ => ?_)
    · refine ⟨_, rfl, a1, 0, ns1, rfl, c1, by omega, _, _, rfl, rfl, ⟨by decide, by decide⟩, _, _, rfl, rfl, (by show (0 : Int) < 6; decide), rfl, _, rfl, ?_⟩
      refine ite2 (fun _ => ?_) (fun _ => ?_)
      · refine ⟨_, rfl, a1, 0, ns1, rfl, c1, by omega, _, _, rfl, rfl, ⟨by decide, by decide⟩, _, _, rfl, rfl, (by show (0 : Int) < 950; decide), _, _, rfl, rfl, ?_⟩
        refine hN' _ _ ⟨(1000 - ns1.getD 0 0 / 144 % 950).toNat, by omega, by omega, ?_, rfl⟩
        show [some (V.ref a1), some (V.int (1000 - ns1.getD 0 0 / 144 % 950)), none, none, none, none, none, none, none, none, none] = _
        rw [show (((1000 - ns1.getD 0 0 / 144 % 950).toNat : Nat) : Int) = 1000 - ns1.getD 0 0 / 144 % 950 by omega]
      · refine hN' _ _ ⟨(1 + ns1.getD 0 0 % 24).toNat, by omega, by omega, ?_, rfl⟩
        show [some (V.ref a1), some (V.int (1 + ns1.getD 0 0 % 24)), none, none, none, none, none, none, none, none, none] = _
        rw [show (((1 + ns1.getD 0 0 % 24).toNat : Nat) : Int) = 1 + ns1.getD 0 0 % 24 by omega]
    subst hσ hHx
    have l2 := cutI_length ns1 (some 2) none
    refine ⟨_, rfl, _, rfl, _, rfl, a1, _, rfl, SqL.of c1, fun a2 hn2 => ⟨((wd : Nat) : Int), a2, cutI ns1 (some 2) none, rfl, cut_at, by omega, by omega, by omega, fun pa ps H3 s3 n3 hP hN hpl => ?_⟩⟩
    rw [Int.toNat_natCast] at hN
    have c3 := s3 _ _ (Same.new hn2 _ _ c1)
    refine ⟨_, rfl, pa, ps, rfl, hP, by omega, fun ro qs Ls H4 s4 n4 er hL hLs hso => ?_⟩
    have hql := hL.1
    obtain ⟨hlenF, _⟩ := hLs.pass hN
    have hnetF := hLs.net hN
    have hdd := deep_le (ps := ps) ps.length (Nat.le_refl _)
    have hLl : Ls.length ≤ 63 := by rw [hLs.len]; omega
    have hLb : ∀ L ∈ Ls, L.length ≤ 100 ∧ ∀ p ∈ L, p.1 ≤ 1000 ∧ p.2 ≤ 1000 := fun L m => by
      obtain ⟨j, hj⟩ := List.mem_iff_getElem?.mp m
      refine ⟨?_, fun p hp => ?_⟩
      · have z := (hLs.at_ j L hj).length_eq
        unfold bucket at z
        rw [List.length_map] at z
        have z2 := List.length_filter_le (fun i => decide (numAt ps i = j)) (List.range ps.length)
        rw [List.length_range] at z2
        omega
      · have z := hN p (hLs.mem hj hp)
        omega
    have hLne : ∀ L ∈ Ls, L ≠ [] := fun L m => by
      obtain ⟨j, hj⟩ := List.mem_iff_getElem?.mp m
      exact hLs.full hj
    refine ⟨_, rfl, _, rfl, wd, ro, qs, Ls, rfl, er, hL, hw2, by omega, hLb, fun du H5 s5 n5 ed => ?_⟩
    have S35 := s4.trans s5
    obtain ⟨rs, ha, ht⟩ := id (hP.mono S35)
    have hrl := ht.1
    refine ⟨_, rfl, _, rfl, pa, _, rfl, .inl (SqL.of ha), fun p1 hp1 => ⟨((wd : Nat) : Int), p1, ps, rfl, ⟨rs, upd_same, ht.mono (Same.new hp1)⟩, by omega, by omega, by rw [Int.toNat_natCast]; exact hN, by omega, fun fo Ls' H6 s6 n6 ef hLs' hso' => ?_⟩⟩
    have eL := layers_same hLs' hLs hso' hso
    subst eL
    rw [Int.toNat_natCast] at ef
    have S56 := (Same.new (o := .lst (rs.map V.ref)) hp1).trans s6
    have ed6 := S56 _ _ ed
    have hll : (figS wd :: Ls'.map lineS).length ≤ 100 := by rw [List.length_cons, List.length_map]; omega
    refine ⟨_, rfl, _, rfl, fo, du, _, rfl, ef, ed6, by omega, _, rfl, ?_⟩
    refine iteF ?_
    have er6 := S56 _ _ (s5 _ _ er)
    have hL6 := (hL.mono s5).mono S56
    refine ⟨Nat.zero_le _, fun fl hfl => ?_⟩
    have S7 := Same.new (o := .lst []) hfl
    refine ⟨_, rfl, ro, rfl, ⟨_, SqL.of (S7 _ _ er6)⟩, for_list (K := K) (a := ro) (xs := qs.map V.ref) (fun j σ Hi => ∃ (u7 : Option V) (fr : List Addr), σ = [some (.ref a1), some (.int (wd : Nat)), some (.ref pa), some (.ref ro), some (.ref du), some (.ref fo), some (.ref fl), u7, none, none, none] ∧ Same H6 Hi ∧ Hi fl = some (.lst (fr.map V.ref)) ∧ Tups Hi fr (Ls'.take j).flatten)
      ⟨none, [], rfl, S7, upd_same, ⟨rfl, fun i r p u v => by simp at u⟩⟩ (fun j σ Hi _ ⟨_, _, _, si, _⟩ => SqL.of (si _ _ er6)) ?_ ?_⟩
    · rintro j x σ Hi hj ⟨u7, fr, rfl, si, efl, tfl⟩
      obtain ⟨q, hq, rfl⟩ := map_get hj
      have hjl := (List.getElem?_eq_some_iff.mp hq).1
      have hLj : Ls'[j]? = some Ls'[j] := List.getElem?_eq_getElem (by omega)
      generalize Ls'[j] = L at hLj
      obtain ⟨rl, el, tl⟩ := (hL6.2 j q L hq hLj).mono si
      have hfr := tfl.1
      have hrl2 := tl.1
      have hf1 := flat_len_le (Ls := Ls') (j + 1)
      rw [take_flat hLj, List.length_append] at hf1
      refine ⟨_, rfl, .inl ⟨rfl, _, SqL.of efl⟩, _, rfl, fl, q, _, _, rfl, rfl, efl, el, big (by rw [List.length_map, List.length_map]; omega), ?_⟩
      refine ⟨_, fr ++ rl, rfl, si.upd hfl, by rw [upd_same, List.map_append], ?_⟩
      rw [take_flat hLj]
      have tk := tup_keep (o := .lst (fr.map V.ref ++ rl.map V.ref)) efl
      exact Tups.app (tfl.keep tk) (tl.keep tk)
    · rintro σ H8 ⟨u7, fr, rfl, s8, efl, tfl⟩
      rw [List.length_map, hql, List.take_length] at tfl
      have ed8 := s8 _ _ ed6
      refine ⟨_, rfl, du, _, rfl, .inl (SqL.of ed8), fun hd hhd => ?_⟩
      have S9 := Same.new (o := .lst ((figS wd :: Ls'.map lineS).map V.str)) hhd
      have ehd : (upd H8 hd (.lst ((figS wd :: Ls'.map lineS).map V.str))) hd = some (.lst ((figS wd :: Ls'.map lineS).map V.str)) := upd_same
      have ed9 := S9 _ _ ed8
      have hfl9 : Posts (upd H8 hd (.lst ((figS wd :: Ls'.map lineS).map V.str))) fl Ls'.flatten := Posts.mono ⟨fr, efl, tfl⟩ S9
      generalize upd H8 hd (.lst ((figS wd :: Ls'.map lineS).map V.str)) = H9 at S9 ehd ed9 hfl9 ⊢
      refine ⟨_, rfl, hd, wd, Ls', rfl, ehd, hw1, hw2, hLne, hnetF, by omega, by omega, fun tr pl H10 s10 n10 etr hpl' => ⟨_, rfl, _, rfl, tr, pl, fl, wd, Ls'.flatten, rfl, etr, hpl', hfl9.mono s10, _, rfl, ?_⟩⟩
      refine iteF ?_
      refine ⟨_, rfl, _, rfl, .ref hd, .ref du, _, rfl, ((Adds.strs (figS wd :: Ls'.map lineS)).lst (s10 _ _ ehd) (s10 _ _ ed9) rfl).goes, by omega, fun H11 s11 => ⟨_, rfl, ?_⟩⟩
      refine iteF ?_
      have S311 : Same H3 H11 := (((((S35.trans S56).trans s8).trans S9).trans s10).trans s11)
      have c11 := S311 _ _ c3
      have hP11 := hP.mono S311
      refine ⟨_, rfl, a1, 1, ns1, rfl, c11, by omega, _, _, rfl, rfl, (by show (0 : Int) < 4; decide), _, _, rfl, rfl, ?_⟩
      obtain ⟨sz, hsz⟩ : ∃ sz : Nat, sz = (1 + ns1.getD 1 0 % 4).toNat := ⟨_, rfl⟩
      have hz1 : 1 ≤ sz := by omega
      have hz2 : sz ≤ 4 := by omega
      dsimp only [gName]
      rw [show 1 + ns1.getD 1 0 % 4 = ((sz : Nat) : Int) by omega]
      obtain ⟨rs, ha, ht⟩ := id hP11
      have hrl := ht.1
      obtain ⟨nn, hnn⟩ : ∃ nn : Nat, nn = (if 0 < ps.length then (ps.length - 1) / sz + 1 else 0) := ⟨_, rfl⟩
      have hnum : (if (0 : Int) < (((rs.map V.ref).length : Nat) : Int) then ((((rs.map V.ref).length : Nat) : Int) - 0 - 1) / ((sz : Nat) : Int) + 1 else 0) = ((nn : Nat) : Int) := by
        rw [List.length_map, hrl, hnn]
        by_cases c : 0 < ps.length
        · rw [if_pos (by omega), if_pos c]
          rw [show ((ps.length : Nat) : Int) - 0 - 1 = ((ps.length - 1 : Nat) : Int) by omega]
          rfl
        · rw [if_neg (by omega), if_neg c]
          rfl
      have hnz : ∀ j, j < nn → j * sz < ps.length := fun j hj => by
        by_cases c : 0 < ps.length
        · rw [if_pos c] at hnn
          have z : j ≤ (ps.length - 1) / sz := by omega
          have z2 := Nat.mul_le_mul_right sz z
          have z3 := Nat.div_mul_le_self (ps.length - 1) sz
          omega
        · rw [if_neg c] at hnn
          omega
      have hnf : ps.length ≤ nn * sz := by
        by_cases c : 0 < ps.length
        · rw [if_pos c] at hnn
          have z := Nat.div_add_mod (ps.length - 1) sz
          have z2 := Nat.mod_lt (ps.length - 1) (show sz > 0 by omega)
          rw [hnn, Nat.add_mul, Nat.one_mul, Nat.mul_comm _ sz]
          omega
        · omega
      have hnn64 : nn ≤ 64 := by
        by_cases c : 0 < ps.length
        · rw [if_pos c] at hnn
          have := Nat.div_le_self (ps.length - 1) sz
          omega
        · rw [if_neg c] at hnn
          omega
      refine ⟨_, rfl, pa, _, rfl, .inl (SqL.of ha), _, rfl, _, _, _, nn, rfl, ⟨by decide, by decide, by omega, by rw [List.length_map]; omega, by omega, by omega⟩, hnum, fun D hD => lc_step (fun i σ3 H3 => ∃ (u : Option V) (fs : List Addr), σ3 = [u, some (.int ((sz : Nat) : Int)), some (.ref pa)] ∧ Same H11 H3 ∧ H3 D = some (.lst (fs.map V.ref)) ∧ LayPosts H3 fs ((List.range i).map (piece ps sz)) ∧ ∀ q ∈ fs, q ≠ D)
        ⟨none, [], rfl, Same.new hD, upd_same, ⟨rfl, fun k q L z => by simp at z⟩, by simp⟩ ?_ ?_⟩
      · rintro i σ3 H3 hi ⟨u, fs, rfl, s3', e3, l3, nfD⟩
        have hfl2 := l3.1
        rw [List.length_map, List.length_range] at hfl2
        have ha3 := s3' _ _ ha
        have hile := hnz i hi
        refine ⟨_, rfl, _, rfl, _, rfl, _, rfl, _, rfl, _, _, rfl, rfl, _, rfl, pa, _, rfl, SqL.of ha3, fun q hq => ?_⟩
        have ec : cutV (rs.map V.ref) (some (0 + (i : Nat) * ((sz : Nat) : Int))) (some (0 + (i : Nat) * ((sz : Nat) : Int) + ((sz : Nat) : Int))) = ((rs.drop (i * sz)).take sz).map V.ref := by
          rw [show (0 : Int) + (i : Nat) * ((sz : Nat) : Int) = ((i * sz : Nat) : Int) by rw [Int.zero_add, Int.natCast_mul]]
          exact cut_piece rs (i * sz) sz (by omega)
        rw [ec]
        have S4 := Same.new (o := .lst (((rs.drop (i * sz)).take sz).map V.ref)) hq
        have e4 := S4 _ _ e3
        have nqD : q ≠ D := (ne_of_none e3 hq).symm
        refine LcEnd.mk e4 (big' (by rw [List.length_map]; omega)) hi ⟨_, fs ++ [q], rfl, (s3'.trans S4).upd hD, ?_, ?_, ?_⟩
        · rw [upd_same, List.map_append]
          rfl
        · rw [List.range_succ, List.map_append]
          refine LayPosts.snoc ⟨l3.1, fun k q' L a b => ((l3.2 k q' L a b).mono S4).keepL e4 (nfD q' (List.mem_of_getElem? a))⟩ ?_
          refine Posts.keepL ⟨(rs.drop (i * sz)).take sz, upd_same, ?_⟩ e4 nqD
          exact (((ht.mono s3').mono S4).drop _).take _
        · intro q' m
          rcases List.mem_append.mp m with m | m
          · exact nfD q' m
          · rw [List.mem_singleton.mp m]
            exact nqD
      · rintro σ3 H12 ⟨u, fs, rfl, s12, e12, l12, nfD⟩
        have hflat : ((List.range nn).map (piece ps sz)).flatten = ps := by
          rw [pieces_flat]
          exact List.take_of_length_le hnf
        have hpb : ∀ L ∈ (List.range nn).map (piece ps sz), L.length ≤ 100 ∧ ∀ p ∈ L, p.1 ≤ 1000 ∧ p.2 ≤ 1000 := fun L m => by
          obtain ⟨j, _, rfl⟩ := List.mem_map.mp m
          refine ⟨?_, fun p hp => ?_⟩
          · unfold piece
            rw [List.length_take]
            omega
          · have z := hN p (List.mem_of_mem_drop (List.mem_of_mem_take hp))
            omega
        refine ⟨_, rfl, _, rfl, wd, D, fs, _, rfl, e12, l12, hw2, by rw [List.length_map, List.length_range]; omega, hpb, fun dl H13 s13 n13 edl => ?_⟩
        have hP13 := (hP11.mono s12).mono s13
        refine ⟨dl, wd, _, rfl, edl, hw1, hw2, fun L m => ?_, by rw [hflat]; exact hN, by rw [List.length_map, List.length_range]; omega, by rw [hflat]; omega, fun tr pl H14 s14 n14 etr hpl' => ⟨_, rfl, _, rfl, tr, pl, pa, wd, ps, rfl, etr, ?_, hP13.mono s14, k _⟩⟩
        · obtain ⟨j, hj, rfl⟩ := List.mem_map.mp m
          intro z
          have z2 := congrArg List.length z
          unfold piece at z2
          rw [List.length_take, List.length_drop] at z2
          have := hnz j (List.mem_range.mp hj)
          simp at z2
          omega
        · rw [hflat] at hpl'
          exact hpl'
end
end PN
namespace PN
open PySem L2
theorem txt_mk {K : PySem.W.Frag} {h : Heap} {mg : Str → Option Value} (X : K.In h) (G : h.Ns mainGlobals mg)
    {f0 : Addr} {od0 an0 : Option Addr} {sl0 : Array (Option Value)} {oc0 kV0 dc0 pm0 cd0 ct0 : Value}
    {f1 : Addr} {od1 an1 : Option Addr} {sl1 : Array (Option Value)} {oc1 kV1 dc1 pm1 cd1 ct1 : Value}
    {f2 : Addr} {od2 an2 : Option Addr} {sl2 : Array (Option Value)} {oc2 kV2 dc2 pm2 cd2 ct2 : Value}
    {f3 : Addr} {od3 an3 : Option Addr} {sl3 : Array (Option Value)} {oc3 kV3 dc3 pm3 cd3 ct3 : Value}
    {f4 : Addr} {od4 an4 : Option Addr} {sl4 : Array (Option Value)} {oc4 kV4 dc4 pm4 cd4 ct4 : Value}
    {f5 : Addr} {od5 an5 : Option Addr} {sl5 : Array (Option Value)} {oc5 kV5 dc5 pm5 cd5 ct5 : Value}
    {f6 : Addr} {od6 an6 : Option Addr} {sl6 : Array (Option Value)} {oc6 kV6 dc6 pm6 cd6 ct6 : Value}
    {f7 : Addr} {od7 an7 : Option Addr} {sl7 : Array (Option Value)} {oc7 kV7 dc7 pm7 cd7 ct7 : Value}
    {f8 : Addr} {od8 an8 : Option Addr} {sl8 : Array (Option Value)} {oc8 kV8 dc8 pm8 cd8 ct8 : Value}
    {f9 : Addr} {od9 an9 : Option Addr} {sl9 : Array (Option Value)} {oc9 kV9 dc9 pm9 cd9 ct9 : Value}
    {f10 : Addr} {od10 an10 : Option Addr} {sl10 : Array (Option Value)} {oc10 kV10 dc10 pm10 cd10 ct10 : Value}
    {f11 : Addr} {od11 an11 : Option Addr} {sl11 : Array (Option Value)} {oc11 kV11 dc11 pm11 cd11 ct11 : Value}
    {f12 : Addr} {od12 an12 : Option Addr} {sl12 : Array (Option Value)} {oc12 kV12 dc12 pm12 cd12 ct12 : Value}
    {f13 : Addr} {od13 an13 : Option Addr} {sl13 : Array (Option Value)} {oc13 kV13 dc13 pm13 cd13 ct13 : Value}
    {f14 : Addr} {od14 an14 : Option Addr} {sl14 : Array (Option Value)} {oc14 kV14 dc14 pm14 cd14 ct14 : Value}
    {f15 : Addr} {od15 an15 : Option Addr} {sl15 : Array (Option Value)} {oc15 kV15 dc15 pm15 cd15 ct15 : Value}
    {f16 : Addr} {od16 an16 : Option Addr} {sl16 : Array (Option Value)} {oc16 kV16 dc16 pm16 cd16 ct16 : Value}
    {f17 : Addr} {od17 an17 : Option Addr} {sl17 : Array (Option Value)} {oc17 kV17 dc17 pm17 cd17 ct17 : Value}
    {f18 : Addr} {od18 an18 : Option Addr} {sl18 : Array (Option Value)} {oc18 kV18 dc18 pm18 cd18 ct18 : Value}
    {tk_FIGURES : Tok}
    (a0 : PySem.W.nsIn K mainGlobals "check_net" = some (some (.ref f0)))
    (l0 : K.lookup f0 = some ⟨oc0, od0, .func (PySem.W.fnOf "check_net" "check_net" (defArgs s_check_net) (defBody s_check_net) (defScope s_check_net) .none kV0 dc0 pm0 an0 cd0 ct0), sl0⟩)
    (c0 : PySem.W.codeIn K cd0 "check_net" = true)
    (k0 : PySem.W.keepIn K (.ref f0) = true)
    (a1 : PySem.W.nsIn K mainGlobals "layer_numbers" = some (some (.ref f1)))
    (l1 : K.lookup f1 = some ⟨oc1, od1, .func (PySem.W.fnOf "layer_numbers" "layer_numbers" (defArgs s_layer_numbers) (defBody s_layer_numbers) (defScope s_layer_numbers) .none kV1 dc1 pm1 an1 cd1 ct1), sl1⟩)
    (c1 : PySem.W.codeIn K cd1 "layer_numbers" = true)
    (k1 : PySem.W.keepIn K (.ref f1) = true)
    (a2 : PySem.W.nsIn K mainGlobals "layers" = some (some (.ref f2)))
    (l2 : K.lookup f2 = some ⟨oc2, od2, .func (PySem.W.fnOf "layers" "layers" (defArgs s_layers) (defBody s_layers) (defScope s_layers) .none kV2 dc2 pm2 an2 cd2 ct2), sl2⟩)
    (c2 : PySem.W.codeIn K cd2 "layers" = true)
    (k2 : PySem.W.keepIn K (.ref f2) = true)
    (a3 : PySem.W.nsIn K mainGlobals "figures_of" = some (some (.ref f3)))
    (l3 : K.lookup f3 = some ⟨oc3, od3, .func (PySem.W.fnOf "figures_of" "figures_of" (defArgs s_figures_of) (defBody s_figures_of) (defScope s_figures_of) .none kV3 dc3 pm3 an3 cd3 ct3), sl3⟩)
    (c3 : PySem.W.codeIn K cd3 "figures_of" = true)
    (k3 : PySem.W.keepIn K (.ref f3) = true)
    (a4 : PySem.W.nsIn K mainGlobals "number_of" = some (some (.ref f4)))
    (l4 : K.lookup f4 = some ⟨oc4, od4, .func (PySem.W.fnOf "number_of" "number_of" (defArgs s_number_of) (defBody s_number_of) (defScope s_number_of) .none kV4 dc4 pm4 an4 cd4 ct4), sl4⟩)
    (c4 : PySem.W.codeIn K cd4 "number_of" = true)
    (k4 : PySem.W.keepIn K (.ref f4) = true)
    (a5 : PySem.W.nsIn K mainGlobals "post_of" = some (some (.ref f5)))
    (l5 : K.lookup f5 = some ⟨oc5, od5, .func (PySem.W.fnOf "post_of" "post_of" (defArgs s_post_of) (defBody s_post_of) (defScope s_post_of) .none kV5 dc5 pm5 an5 cd5 ct5), sl5⟩)
    (c5 : PySem.W.codeIn K cd5 "post_of" = true)
    (k5 : PySem.W.keepIn K (.ref f5) = true)
    (a6 : PySem.W.nsIn K mainGlobals "line_of" = some (some (.ref f6)))
    (l6 : K.lookup f6 = some ⟨oc6, od6, .func (PySem.W.fnOf "line_of" "line_of" (defArgs s_line_of) (defBody s_line_of) (defScope s_line_of) .none kV6 dc6 pm6 an6 cd6 ct6), sl6⟩)
    (c6 : PySem.W.codeIn K cd6 "line_of" = true)
    (k6 : PySem.W.keepIn K (.ref f6) = true)
    (a7 : PySem.W.nsIn K mainGlobals "shown" = some (some (.ref f7)))
    (l7 : K.lookup f7 = some ⟨oc7, od7, .func (PySem.W.fnOf "shown" "shown" (defArgs s_shown) (defBody s_shown) (defScope s_shown) .none kV7 dc7 pm7 an7 cd7 ct7), sl7⟩)
    (c7 : PySem.W.codeIn K cd7 "shown" = true)
    (k7 : PySem.W.keepIn K (.ref f7) = true)
    (a8 : PySem.W.nsIn K mainGlobals "read" = some (some (.ref f8)))
    (l8 : K.lookup f8 = some ⟨oc8, od8, .func (PySem.W.fnOf "read" "read" (defArgs s_read) (defBody s_read) (defScope s_read) .none kV8 dc8 pm8 an8 cd8 ct8), sl8⟩)
    (c8 : PySem.W.codeIn K cd8 "read" = true)
    (k8 : PySem.W.keepIn K (.ref f8) = true)
    (a9 : PySem.W.nsIn K mainGlobals "_law_whole" = some (some (.ref f9)))
    (l9 : K.lookup f9 = some ⟨oc9, od9, .func (PySem.W.fnOf "_law_whole" "_law_whole" (defArgs s__law_whole) (defBody s__law_whole) (defScope s__law_whole) .none kV9 dc9 pm9 an9 cd9 ct9), sl9⟩)
    (c9 : PySem.W.codeIn K cd9 "_law_whole" = true)
    (k9 : PySem.W.keepIn K (.ref f9) = true)
    (a10 : PySem.W.nsIn K mainGlobals "_law_at" = some (some (.ref f10)))
    (l10 : K.lookup f10 = some ⟨oc10, od10, .func (PySem.W.fnOf "_law_at" "_law_at" (defArgs s__law_at) (defBody s__law_at) (defScope s__law_at) .none kV10 dc10 pm10 an10 cd10 ct10), sl10⟩)
    (c10 : PySem.W.codeIn K cd10 "_law_at" = true)
    (k10 : PySem.W.keepIn K (.ref f10) = true)
    (a11 : PySem.W.nsIn K mainGlobals "_law_posts_by" = some (some (.ref f11)))
    (l11 : K.lookup f11 = some ⟨oc11, od11, .func (PySem.W.fnOf "_law_posts_by" "_law_posts_by" (defArgs s__law_posts_by) (defBody s__law_posts_by) (defScope s__law_posts_by) .none kV11 dc11 pm11 an11 cd11 ct11), sl11⟩)
    (c11 : PySem.W.codeIn K cd11 "_law_posts_by" = true)
    (k11 : PySem.W.keepIn K (.ref f11) = true)
    (a12 : PySem.W.nsIn K mainGlobals "_law_are_posts" = some (some (.ref f12)))
    (l12 : K.lookup f12 = some ⟨oc12, od12, .func (PySem.W.fnOf "_law_are_posts" "_law_are_posts" (defArgs s__law_are_posts) (defBody s__law_are_posts) (defScope s__law_are_posts) .none kV12 dc12 pm12 an12 cd12 ct12), sl12⟩)
    (c12 : PySem.W.codeIn K cd12 "_law_are_posts" = true)
    (k12 : PySem.W.keepIn K (.ref f12) = true)
    (a13 : PySem.W.nsIn K mainGlobals "_law_layered" = some (some (.ref f13)))
    (l13 : K.lookup f13 = some ⟨oc13, od13, .func (PySem.W.fnOf "_law_layered" "_law_layered" (defArgs s__law_layered) (defBody s__law_layered) (defScope s__law_layered) .none kV13 dc13 pm13 an13 cd13 ct13), sl13⟩)
    (c13 : PySem.W.codeIn K cd13 "_law_layered" = true)
    (k13 : PySem.W.keepIn K (.ref f13) = true)
    (a14 : PySem.W.nsIn K mainGlobals "_law_lines_of" = some (some (.ref f14)))
    (l14 : K.lookup f14 = some ⟨oc14, od14, .func (PySem.W.fnOf "_law_lines_of" "_law_lines_of" (defArgs s__law_lines_of) (defBody s__law_lines_of) (defScope s__law_lines_of) .none kV14 dc14 pm14 an14 cd14 ct14), sl14⟩)
    (c14 : PySem.W.codeIn K cd14 "_law_lines_of" = true)
    (k14 : PySem.W.keepIn K (.ref f14) = true)
    (a15 : PySem.W.nsIn K mainGlobals "_law_texts" = some (some (.ref f15)))
    (l15 : K.lookup f15 = some ⟨oc15, od15, .func (PySem.W.fnOf "_law_texts" "_law_texts" (defArgs s__law_texts) (defBody s__law_texts) (defScope s__law_texts) .none kV15 dc15 pm15 an15 cd15 ct15), sl15⟩)
    (c15 : PySem.W.codeIn K cd15 "_law_texts" = true)
    (k15 : PySem.W.keepIn K (.ref f15) = true)
    (a16 : PySem.W.nsIn K mainGlobals "_law_net_is" = some (some (.ref f16)))
    (l16 : K.lookup f16 = some ⟨oc16, od16, .func (PySem.W.fnOf "_law_net_is" "_law_net_is" (defArgs s__law_net_is) (defBody s__law_net_is) (defScope s__law_net_is) .none kV16 dc16 pm16 an16 cd16 ct16), sl16⟩)
    (c16 : PySem.W.codeIn K cd16 "_law_net_is" = true)
    (k16 : PySem.W.keepIn K (.ref f16) = true)
    (a17 : PySem.W.nsIn K mainGlobals "_law_stays_so" = some (some (.ref f17)))
    (l17 : K.lookup f17 = some ⟨oc17, od17, .func (PySem.W.fnOf "_law_stays_so" "_law_stays_so" (defArgs s__law_stays_so) (defBody s__law_stays_so) (defScope s__law_stays_so) .none kV17 dc17 pm17 an17 cd17 ct17), sl17⟩)
    (c17 : PySem.W.codeIn K cd17 "_law_stays_so" = true)
    (k17 : PySem.W.keepIn K (.ref f17) = true)
    (a18 : PySem.W.nsIn K mainGlobals "law" = some (some (.ref f18)))
    (l18 : K.lookup f18 = some ⟨oc18, od18, .func (PySem.W.fnOf "law" "law" (defArgs s_law) (defBody s_law) (defScope s_law) .none kV18 dc18 pm18 an18 cd18 ct18), sl18⟩)
    (c18 : PySem.W.codeIn K cd18 "law" = true)
    (k18 : PySem.W.keepIn K (.ref f18) = true)
    (z_bool : PySem.W.nsIn K mainGlobals "bool" = some none)
    (z_enumerate : PySem.W.nsIn K mainGlobals "enumerate" = some none)
    (z_int : PySem.W.nsIn K mainGlobals "int" = some none)
    (z_isinstance : PySem.W.nsIn K mainGlobals "isinstance" = some none)
    (z_len : PySem.W.nsIn K mainGlobals "len" = some none)
    (z_list : PySem.W.nsIn K mainGlobals "list" = some none)
    (z_max : PySem.W.nsIn K mainGlobals "max" = some none)
    (z_range : PySem.W.nsIn K mainGlobals "range" = some none)
    (z_reversed : PySem.W.nsIn K mainGlobals "reversed" = some none)
    (z_sorted : PySem.W.nsIn K mainGlobals "sorted" = some none)
    (z_str : PySem.W.nsIn K mainGlobals "str" = some none)
    (z_tuple : PySem.W.nsIn K mainGlobals "tuple" = some none)
    (z_zip : PySem.W.nsIn K mainGlobals "zip" = some none)
    (c_FIGURES : PySem.W.nsIn K mainGlobals "FIGURES" = some (some (.str "0123456789" tk_FIGURES)))
    : ∃ t : Adr, Txt K mg t := by
  refine ⟨⟨f0, PySem.W.fnOf "check_net" "check_net" (defArgs s_check_net) (defBody s_check_net) (defScope s_check_net) .none kV0 dc0 pm0 an0 cd0 ct0, f1, PySem.W.fnOf "layer_numbers" "layer_numbers" (defArgs s_layer_numbers) (defBody s_layer_numbers) (defScope s_layer_numbers) .none kV1 dc1 pm1 an1 cd1 ct1, f2, PySem.W.fnOf "layers" "layers" (defArgs s_layers) (defBody s_layers) (defScope s_layers) .none kV2 dc2 pm2 an2 cd2 ct2, f3, PySem.W.fnOf "figures_of" "figures_of" (defArgs s_figures_of) (defBody s_figures_of) (defScope s_figures_of) .none kV3 dc3 pm3 an3 cd3 ct3, f4, PySem.W.fnOf "number_of" "number_of" (defArgs s_number_of) (defBody s_number_of) (defScope s_number_of) .none kV4 dc4 pm4 an4 cd4 ct4, f5, PySem.W.fnOf "post_of" "post_of" (defArgs s_post_of) (defBody s_post_of) (defScope s_post_of) .none kV5 dc5 pm5 an5 cd5 ct5, f6, PySem.W.fnOf "line_of" "line_of" (defArgs s_line_of) (defBody s_line_of) (defScope s_line_of) .none kV6 dc6 pm6 an6 cd6 ct6, f7, PySem.W.fnOf "shown" "shown" (defArgs s_shown) (defBody s_shown) (defScope s_shown) .none kV7 dc7 pm7 an7 cd7 ct7, f8, PySem.W.fnOf "read" "read" (defArgs s_read) (defBody s_read) (defScope s_read) .none kV8 dc8 pm8 an8 cd8 ct8, f9, PySem.W.fnOf "_law_whole" "_law_whole" (defArgs s__law_whole) (defBody s__law_whole) (defScope s__law_whole) .none kV9 dc9 pm9 an9 cd9 ct9, f10, PySem.W.fnOf "_law_at" "_law_at" (defArgs s__law_at) (defBody s__law_at) (defScope s__law_at) .none kV10 dc10 pm10 an10 cd10 ct10, f11, PySem.W.fnOf "_law_posts_by" "_law_posts_by" (defArgs s__law_posts_by) (defBody s__law_posts_by) (defScope s__law_posts_by) .none kV11 dc11 pm11 an11 cd11 ct11, f12, PySem.W.fnOf "_law_are_posts" "_law_are_posts" (defArgs s__law_are_posts) (defBody s__law_are_posts) (defScope s__law_are_posts) .none kV12 dc12 pm12 an12 cd12 ct12, f13, PySem.W.fnOf "_law_layered" "_law_layered" (defArgs s__law_layered) (defBody s__law_layered) (defScope s__law_layered) .none kV13 dc13 pm13 an13 cd13 ct13, f14, PySem.W.fnOf "_law_lines_of" "_law_lines_of" (defArgs s__law_lines_of) (defBody s__law_lines_of) (defScope s__law_lines_of) .none kV14 dc14 pm14 an14 cd14 ct14, f15, PySem.W.fnOf "_law_texts" "_law_texts" (defArgs s__law_texts) (defBody s__law_texts) (defScope s__law_texts) .none kV15 dc15 pm15 an15 cd15 ct15, f16, PySem.W.fnOf "_law_net_is" "_law_net_is" (defArgs s__law_net_is) (defBody s__law_net_is) (defScope s__law_net_is) .none kV16 dc16 pm16 an16 cd16 ct16, f17, PySem.W.fnOf "_law_stays_so" "_law_stays_so" (defArgs s__law_stays_so) (defBody s__law_stays_so) (defScope s__law_stays_so) .none kV17 dc17 pm17 an17 cd17 ct17, f18, PySem.W.fnOf "law" "law" (defArgs s_law) (defBody s_law) (defScope s_law) .none kV18 dc18 pm18 an18 cd18 ct18, 0, 0, 0, tk_FIGURES⟩, ?_⟩
  constructor
  case F_check_net => exact fun_mk (st := s_check_net) l0 c0 k0
  case b_check_net => exact (fun_mk (st := s_check_net) l0 c0 k0).binds (ps := ["width", "posts"]) fun _ _ _ _ _ _ us hl => match us, hl with | [_, _], _ => rfl
  case m_check_net => exact PySem.W.mg_of X G a0
  case F_layer_numbers => exact fun_mk (st := s_layer_numbers) l1 c1 k1
  case b_layer_numbers => exact (fun_mk (st := s_layer_numbers) l1 c1 k1).binds (ps := ["posts"]) fun _ _ _ _ _ _ us hl => match us, hl with | [_], _ => rfl
  case m_layer_numbers => exact PySem.W.mg_of X G a1
  case F_layers => exact fun_mk (st := s_layers) l2 c2 k2
  case b_layers => exact (fun_mk (st := s_layers) l2 c2 k2).binds (ps := ["width", "posts"]) fun _ _ _ _ _ _ us hl => match us, hl with | [_, _], _ => rfl
  case m_layers => exact PySem.W.mg_of X G a2
  case F_figures_of => exact fun_mk (st := s_figures_of) l3 c3 k3
  case b_figures_of => exact (fun_mk (st := s_figures_of) l3 c3 k3).binds (ps := ["number"]) fun _ _ _ _ _ _ us hl => match us, hl with | [_], _ => rfl
  case m_figures_of => exact PySem.W.mg_of X G a3
  case F_number_of => exact fun_mk (st := s_number_of) l4 c4 k4
  case b_number_of => exact (fun_mk (st := s_number_of) l4 c4 k4).binds (ps := ["text"]) fun _ _ _ _ _ _ us hl => match us, hl with | [_], _ => rfl
  case m_number_of => exact PySem.W.mg_of X G a4
  case F_post_of => exact fun_mk (st := s_post_of) l5 c5 k5
  case b_post_of => exact (fun_mk (st := s_post_of) l5 c5 k5).binds (ps := ["text"]) fun _ _ _ _ _ _ us hl => match us, hl with | [_], _ => rfl
  case m_post_of => exact PySem.W.mg_of X G a5
  case F_line_of => exact fun_mk (st := s_line_of) l6 c6 k6
  case b_line_of => exact (fun_mk (st := s_line_of) l6 c6 k6).binds (ps := ["layer"]) fun _ _ _ _ _ _ us hl => match us, hl with | [_], _ => rfl
  case m_line_of => exact PySem.W.mg_of X G a6
  case F_shown => exact fun_mk (st := s_shown) l7 c7 k7
  case b_shown => exact (fun_mk (st := s_shown) l7 c7 k7).binds (ps := ["width", "posts"]) fun _ _ _ _ _ _ us hl => match us, hl with | [_, _], _ => rfl
  case m_shown => exact PySem.W.mg_of X G a7
  case F_read => exact fun_mk (st := s_read) l8 c8 k8
  case b_read => exact (fun_mk (st := s_read) l8 c8 k8).binds (ps := ["lines"]) fun _ _ _ _ _ _ us hl => match us, hl with | [_], _ => rfl
  case m_read => exact PySem.W.mg_of X G a8
  case F__law_whole => exact fun_mk (st := s__law_whole) l9 c9 k9
  case b__law_whole => exact (fun_mk (st := s__law_whole) l9 c9 k9).binds (ps := ["_law_found"]) fun _ _ _ _ _ _ us hl => match us, hl with | [_], _ => rfl
  case m__law_whole => exact PySem.W.mg_of X G a9
  case F__law_at => exact fun_mk (st := s__law_at) l10 c10 k10
  case b__law_at => exact (fun_mk (st := s__law_at) l10 c10 k10).binds (ps := ["_law_script", "_law_k"]) fun _ _ _ _ _ _ us hl => match us, hl with | [_, _], _ => rfl
  case m__law_at => exact PySem.W.mg_of X G a10
  case F__law_posts_by => exact fun_mk (st := s__law_posts_by) l11 c11 k11
  case b__law_posts_by => exact (fun_mk (st := s__law_posts_by) l11 c11 k11).binds (ps := ["_law_width", "_law_cells"]) fun _ _ _ _ _ _ us hl => match us, hl with | [_, _], _ => rfl
  case m__law_posts_by => exact PySem.W.mg_of X G a11
  case F__law_are_posts => exact fun_mk (st := s__law_are_posts) l12 c12 k12
  case b__law_are_posts => exact (fun_mk (st := s__law_are_posts) l12 c12 k12).binds (ps := ["_law_found"]) fun _ _ _ _ _ _ us hl => match us, hl with | [_], _ => rfl
  case m__law_are_posts => exact PySem.W.mg_of X G a12
  case F__law_layered => exact fun_mk (st := s__law_layered) l13 c13 k13
  case b__law_layered => exact (fun_mk (st := s__law_layered) l13 c13 k13).binds (ps := ["_law_posts"]) fun _ _ _ _ _ _ us hl => match us, hl with | [_], _ => rfl
  case m__law_layered => exact PySem.W.mg_of X G a13
  case F__law_lines_of => exact fun_mk (st := s__law_lines_of) l14 c14 k14
  case b__law_lines_of => exact (fun_mk (st := s__law_lines_of) l14 c14 k14).binds (ps := ["_law_width", "_law_rows"]) fun _ _ _ _ _ _ us hl => match us, hl with | [_, _], _ => rfl
  case m__law_lines_of => exact PySem.W.mg_of X G a14
  case F__law_texts => exact fun_mk (st := s__law_texts) l15 c15 k15
  case b__law_texts => exact (fun_mk (st := s__law_texts) l15 c15 k15).binds (ps := ["_law_found", "_law_due"]) fun _ _ _ _ _ _ us hl => match us, hl with | [_, _], _ => rfl
  case m__law_texts => exact PySem.W.mg_of X G a15
  case F__law_net_is => exact fun_mk (st := s__law_net_is) l16 c16 k16
  case b__law_net_is => exact (fun_mk (st := s__law_net_is) l16 c16 k16).binds (ps := ["_law_found", "_law_width", "_law_posts"]) fun _ _ _ _ _ _ us hl => match us, hl with | [_, _, _], _ => rfl
  case m__law_net_is => exact PySem.W.mg_of X G a16
  case F__law_stays_so => exact fun_mk (st := s__law_stays_so) l17 c17 k17
  case b__law_stays_so => exact (fun_mk (st := s__law_stays_so) l17 c17 k17).binds (ps := ["_law_handed", "_law_own"]) fun _ _ _ _ _ _ us hl => match us, hl with | [_, _], _ => rfl
  case m__law_stays_so => exact PySem.W.mg_of X G a17
  case F_law => exact fun_mk (st := s_law) l18 c18 k18
  case b_law => exact (fun_mk (st := s_law) l18 c18 k18).binds (ps := ["_law_script"]) fun _ _ _ _ _ _ us hl => match us, hl with | [_], _ => rfl
  case m_law => exact PySem.W.mg_of X G a18
  case z_bool => exact PySem.W.mg_none_of X G z_bool
  case z_enumerate => exact PySem.W.mg_none_of X G z_enumerate
  case z_int => exact PySem.W.mg_none_of X G z_int
  case z_isinstance => exact PySem.W.mg_none_of X G z_isinstance
  case z_len => exact PySem.W.mg_none_of X G z_len
  case z_list => exact PySem.W.mg_none_of X G z_list
  case z_max => exact PySem.W.mg_none_of X G z_max
  case z_range => exact PySem.W.mg_none_of X G z_range
  case z_reversed => exact PySem.W.mg_none_of X G z_reversed
  case z_sorted => exact PySem.W.mg_none_of X G z_sorted
  case z_str => exact PySem.W.mg_none_of X G z_str
  case z_tuple => exact PySem.W.mg_none_of X G z_tuple
  case z_zip => exact PySem.W.mg_none_of X G z_zip
  case c_FIGURES => exact PySem.W.mg_of X G c_FIGURES
  case bl => exact fun s v => .of_eq rfl
theorem walk {l : PySem.W.OpenLaw} {q : Program} {loose : List Str} {XP : (Str → Option Value) → Heap → Prop} {YP : World → Heap → Prop} {d : DefRec} {K : Params → PySem.W.Frag} (hn : l.most = some 63) (hdf : d.params.defaults = []) (hnm : d.name = "law")
    (hY : ∀ (w : World) (h : Heap), YP w h → (K w.params).In h)
    (F : ∀ (w : World) (mg : Str → Option Value) (h : Heap), (K w.params).In h → h.Ns mainGlobals mg → ∃ t : Adr, Txt (K w.params) mg t) :
    PySem.W.WalkO q loose XP YP l.row.toRowW d [] (fun f vs => PySem.call f vs) := by
  refine L2.walk_of (n := 63) (k := 8) (x := "_law_script") (K := K) (CX := fun _ => CX0) (sp := fun w => spLaw (K w.params)) hn (by decide) hdf ⟨rfl, by decide, by decide⟩ hY (fun w mg fa h KX G hfa => ?_) (fun _ _ a ns hl _ hS => ⟨a, ns, rfl, hS, hl, fun _ => rfl⟩) fun _ _ _ _ _ z => z
  obtain ⟨t, T⟩ := F w mg h KX G
  rw [hnm] at hfa
  have e := hfa.symm.trans T.m_law
  cases e
  exact ⟨t.fd_law, T.bl, fun base _ _ => ok_law T⟩
end PN
open PySem PySem.W PyProof.Rows
set_option maxRecDepth 100000 in
set_option maxHeartbeats 0 in
theorem PySem.Challenge.cw_postnet_k11_whole_written_and_read_holds : PySem.Challenge.rw_postnet_k11_whole_written_and_read.Holds := by
  w_on; o_law; k_head; (case hw => w_witness2)
  k_fill
  refine PN.walk (l := PySem.Challenge.rw_postnet_k11_whole_written_and_read) rfl rfl rfl (fun w h Y => PySem.W.kIn_of Y) ?F
  case F =>
    intro w mg h KX G
    refine' PN.txt_mk KX G ?a0 ?l0 ?c0 ?k0 ?a1 ?l1 ?c1 ?k1 ?a2 ?l2 ?c2 ?k2 ?a3 ?l3 ?c3 ?k3 ?a4 ?l4 ?c4 ?k4 ?a5 ?l5 ?c5 ?k5 ?a6 ?l6 ?c6 ?k6 ?a7 ?l7 ?c7 ?k7 ?a8 ?l8 ?c8 ?k8 ?a9 ?l9 ?c9 ?k9 ?a10 ?l10 ?c10 ?k10 ?a11 ?l11 ?c11 ?k11 ?a12 ?l12 ?c12 ?k12 ?a13 ?l13 ?c13 ?k13 ?a14 ?l14 ?c14 ?k14 ?a15 ?l15 ?c15 ?k15 ?a16 ?l16 ?c16 ?k16 ?a17 ?l17 ?c17 ?k17 ?a18 ?l18 ?c18 ?k18 ?z_bool ?z_enumerate ?z_int ?z_isinstance ?z_len ?z_list ?z_max ?z_range ?z_reversed ?z_sorted ?z_str ?z_tuple ?z_zip ?c_FIGURES
    (case a0 => k_is)
    (case l0 => k_is)
    (case c0 => k_is)
    (case k0 => k_is)
    (case a1 => k_is)
    (case l1 => k_is)
    (case c1 => k_is)
    (case k1 => k_is)
    (case a2 => k_is)
    (case l2 => k_is)
    (case c2 => k_is)
    (case k2 => k_is)
    (case a3 => k_is)
    (case l3 => k_is)
    (case c3 => k_is)
    (case k3 => k_is)
    (case a4 => k_is)
    (case l4 => k_is)
    (case c4 => k_is)
    (case k4 => k_is)
    (case a5 => k_is)
    (case l5 => k_is)
    (case c5 => k_is)
    (case k5 => k_is)
    (case a6 => k_is)
    (case l6 => k_is)
    (case c6 => k_is)
    (case k6 => k_is)
    (case a7 => k_is)
    (case l7 => k_is)
    (case c7 => k_is)
    (case k7 => k_is)
    (case a8 => k_is)
    (case l8 => k_is)
    (case c8 => k_is)
    (case k8 => k_is)
    (case a9 => k_is)
    (case l9 => k_is)
    (case c9 => k_is)
    (case k9 => k_is)
    (case a10 => k_is)
    (case l10 => k_is)
    (case c10 => k_is)
    (case k10 => k_is)
    (case a11 => k_is)
    (case l11 => k_is)
    (case c11 => k_is)
    (case k11 => k_is)
    (case a12 => k_is)
    (case l12 => k_is)
    (case c12 => k_is)
    (case k12 => k_is)
    (case a13 => k_is)
    (case l13 => k_is)
    (case c13 => k_is)
    (case k13 => k_is)
    (case a14 => k_is)
    (case l14 => k_is)
    (case c14 => k_is)
    (case k14 => k_is)
    (case a15 => k_is)
    (case l15 => k_is)
    (case c15 => k_is)
    (case k15 => k_is)
    (case a16 => k_is)
    (case l16 => k_is)
    (case c16 => k_is)
    (case k16 => k_is)
    (case a17 => k_is)
    (case l17 => k_is)
    (case c17 => k_is)
    (case k17 => k_is)
    (case a18 => k_is)
    (case l18 => k_is)
    (case c18 => k_is)
    (case k18 => k_is)
    (case z_bool => k_is)
    (case z_enumerate => k_is)
    (case z_int => k_is)
    (case z_isinstance => k_is)
    (case z_len => k_is)
    (case z_list => k_is)
    (case z_max => k_is)
    (case z_range => k_is)
    (case z_reversed => k_is)
    (case z_sorted => k_is)
    (case z_str => k_is)
    (case z_tuple => k_is)
    (case z_zip => k_is)
    (case c_FIGURES => k_is)
#print axioms PySem.Challenge.cw_postnet_k11_whole_written_and_read_holds
