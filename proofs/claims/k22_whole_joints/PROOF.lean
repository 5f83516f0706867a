

import PyProof.Rows.All
import Wide.All
import OpenK.AllK
import Wide.FinOn
import Lean
import PyProof.EqAt
import PyProof.EqKinds
import PyProof.TupleCall
import PyProof.NeKinds
import PySem.Challenge.RW_manypurses_k22_whole_joints
set_option Elab.async false
set_option linter.all false
set_option maxRecDepth 100000
/-! THE HAND LAYER, for ints, bools, texts, own classes, LISTS and tuples (index, slices, in, append, pop ..), calls, loops. Paste it whole ahead of your own text; what your proof does not reach may be deleted. -/
namespace L2
open PySem PySem.Spec PyProof.Rows

/-- a key: an int or a str -/
abbrev Key := Sum Int Str
def keyIs : Key → Value → Bool
  | .inl k, v => Value.isInt k v
  | .inr x, v => Value.isStrOf x v
def keyH (w : World) : Key → Int
  | .inl k => hashInt k
  | .inr x => hashStr w x
theorem keyIs_shape : ∀ {k : Key} {v : Value}, keyIs k v = true → (∃ i t, k = Sum.inl i ∧ v = Value.int i t) ∨ (∃ x t, k = Sum.inr x ∧ v = Value.str x t)
  | .inl i, v, h => by
    obtain ⟨t, e⟩ := Value.isInt_shape (k := i) (v := v) h
    exact .inl ⟨i, t, rfl, e⟩
  | .inr x, v, h => by
    obtain ⟨t, e⟩ := Value.isStrOf_shape (x := x) (v := v) h
    exact .inr ⟨x, t, rfl, e⟩
theorem keyIs_int (i : Int) (t : Tok) : keyIs (.inl i) (.int i t) = true := by simp [keyIs, Value.isInt]
theorem keyIs_str (x : Str) (t : Tok) : keyIs (.inr x) (.str x t) = true := by simp [keyIs, Value.isStrOf]
theorem key_ll (a b : Int) : decide ((Sum.inl a : Key) = Sum.inl b) = (a == b) := by
  by_cases e : a = b
  · subst e; simp
  · have h : ¬ (Sum.inl a : Key) = Sum.inl b := fun q => e (Sum.inl.inj q)
    rw [decide_eq_false h]
    exact (beq_eq_false_iff_ne.mpr e).symm
theorem key_rr (a b : Str) : decide ((Sum.inr a : Key) = Sum.inr b) = decide (a = b) := by
  by_cases e : a = b
  · subst e; simp
  · have h : ¬ (Sum.inr a : Key) = Sum.inr b := fun q => e (Sum.inr.inj q)
    rw [decide_eq_false h, decide_eq_false e]
theorem key_lr (a : Int) (b : Str) : decide ((Sum.inl a : Key) = Sum.inr b) = false := decide_eq_false (fun q => nomatch q)
theorem key_rl (a : Str) (b : Int) : decide ((Sum.inr a : Key) = Sum.inl b) = false := decide_eq_false (fun q => nomatch q)

def mixKind (prog : Program) (w : World) : PySem.KeyKind prog w Key where
  is := keyIs
  hash := keyH w
  inj := fun v a b ha hb => by
    rcases keyIs_shape ha with ⟨i, t, rfl, rfl⟩ | ⟨x, t, rfl, rfl⟩
    · rcases keyIs_shape hb with ⟨j, u, rfl, e⟩ | ⟨y, u, rfl, e⟩
      · injection e with e1 _; rw [e1]
      · exact nomatch e
    · rcases keyIs_shape hb with ⟨j, u, rfl, e⟩ | ⟨y, u, rfl, e⟩
      · exact nomatch e
      · injection e with e1 _; rw [e1]
  byValue := fun k v h => by
    rcases keyIs_shape h with ⟨i, t, rfl, rfl⟩ | ⟨x, t, rfl, rfl⟩ <;> rfl
  pyHash := fun hv h => by
    rcases keyIs_shape hv with ⟨i, t, rfl, rfl⟩ | ⟨x, t, rfl, rfl⟩
    · exact wpAny_pyHash_int h
    · exact wpAny_pyHash_str h
  eqBool := fun hu hv h => by
    rcases keyIs_shape hu with ⟨i, t, rfl, rfl⟩ | ⟨x, t, rfl, rfl⟩
    · rcases keyIs_shape hv with ⟨j, u, rfl, rfl⟩ | ⟨y, u, rfl, rfl⟩
      · rw [key_ll] at h; exact wpAny_eqBool_int h
      · rw [key_lr] at h; exact SeqAt.EqAt.int_str i t y u _ _ _ _ h
    · rcases keyIs_shape hv with ⟨j, u, rfl, rfl⟩ | ⟨y, u, rfl, rfl⟩
      · rw [key_rl] at h; exact SeqAt.EqAt.str_int x t j u _ _ _ _ h
      · rw [key_rr] at h; exact wpAny_eqBool_str h
  «strs» := fun k x t v h => by
    rcases keyIs_shape h with ⟨i, u, rfl, e⟩ | ⟨y, u, rfl, e⟩
    · exact nomatch e
    · injection e with e1 _
      subst e1
      cases v <;> rfl

theorem mixKind_int (prog : Program) (w : World) (i : Int) (t : Tok) : (mixKind prog w).is (.inl i) (.int i t) = true := keyIs_int i t
theorem mixKind_str (prog : Program) (w : World) (x : Str) (t : Tok) : (mixKind prog w).is (.inr x) (.str x t) = true := keyIs_str x t
end L2

namespace L2
open PySem PySem.Spec PyProof.Rows

/-- a value, without the heap -/
inductive V where
  | non | bl (b : Bool) | int (i : Int) | str (x : Str) | byt (b : Array UInt8) | flt (b : UInt64) | ref (a : Addr) | ty (n : String)
  deriving DecidableEq

def RelV : V → Value → Prop
  | .non, u => u = Value.none
  | .bl b, u => u = Value.bool b
  | .int i, u => ∃ t, u = Value.int i t
  | .str x, u => ∃ t, u = Value.str x t
  | .byt b, u => ∃ t, u = Value.bytes b t
  | .flt b, u => ∃ t, u = Value.float b t
  | .ref a, u => u = Value.ref a
  | .ty n, u => u = Value.type n

abbrev Vals : List V → List Value → Prop := Paired RelV
theorem Vals.length {xs : List V} {us : List Value} (r : Vals xs us) : xs.length = us.length := Paired.length r
theorem Vals.get : ∀ {xs : List V} {us : List Value} {i : Nat} {x : V}, Vals xs us → xs[i]? = some x → ∃ u, us[i]? = some u ∧ RelV x u
  | _, _, _, _, .nil, e => by simp at e
  | _, _, 0, _, .cons r _, e => by simp at e; subst e; exact ⟨_, rfl, r⟩
  | _, _, i + 1, x, .cons _ t, e => by
    obtain ⟨u, h1, h2⟩ := Vals.get (i := i) (x := x) t (by simpa using e)
    exact ⟨u, by simpa using h1, h2⟩
theorem Vals.set {x : V} {u : Value} (r : RelV x u) : ∀ {xs : List V} {us : List Value} (i : Nat), Vals xs us → Vals (xs.set i x) (us.set i u)
  | _, _, _, .nil => .nil
  | _, _, 0, .cons _ t => .cons r t
  | _, _, i + 1, .cons q t => .cons q (Vals.set r i t)
theorem Vals.append : ∀ {xs ys : List V} {us ws : List Value}, Vals xs us → Vals ys ws → Vals (xs ++ ys) (us ++ ws)
  | _, _, _, _, .nil, s => s
  | _, _, _, _, .cons r t, s => .cons r (Vals.append t s)
theorem Vals.take : ∀ {xs : List V} {us : List Value} (n : Nat), Vals xs us → Vals (xs.take n) (us.take n)
  | _, _, 0, _ => .nil
  | _, _, _ + 1, .nil => .nil
  | _, _, n + 1, .cons r t => .cons r (Vals.take n t)
theorem Vals.drop : ∀ {xs : List V} {us : List Value} (n : Nat), Vals xs us → Vals (xs.drop n) (us.drop n)
  | _, _, 0, r => r
  | _, _, _ + 1, .nil => .nil
  | _, _, n + 1, .cons _ t => Vals.drop n t
theorem Vals.none_of : ∀ {xs : List V} {us : List Value} {i : Nat}, Vals xs us → xs[i]? = none → us[i]? = none := fun {xs us i} r e => by
  have h1 := r.length
  have h2 : xs.length ≤ i := List.getElem?_eq_none_iff.mp e
  exact List.getElem?_eq_none_iff.mpr (by omega)

def RelO : Option V → Option Value → Prop
  | some v, some u => RelV v u
  | none, none => True
  | _, _ => False
def KV {κ : Type} : List (κ × V) → List (κ × Value) → Prop := Paired fun (p : κ × V) (q : κ × Value) => p.1 = q.1 ∧ RelV p.2 q.2

/-- a key of a dict (00_mix): an int or a text -/
def kV : Key → V
  | .inl i => .int i
  | .inr x => .str x

/-- what stands at a tracked address -/
inductive HO where
  /-- a list -/
  | lst (xs : List V)
  /-- a tuple (never changes) -/
  | tup (xs : List V)
  /-- a dict whose keys are ints and texts; one whose keys are tuples of ints and texts (the empty one is both) -/
  | dK (kvs : List (Key × V)) | dT (kvs : List (List Key × V))
  /-- a set of ints: its members, its size -/
  | set (S : Int → Bool) (n : Nat)
  /-- an instance of the class at C, its dict at dx, its attributes -/
  | ins (C dx : Addr) (fs : List (Str × V))
  /-- the dict of the instance at x -/
  | own (x : Addr)
  /-- the dict of an exception -/
  | xd (fs : List (Str × V))
  /-- a bound method, f of x -/
  | met (f x : Addr)
  /-- a range object lo, lo + 1, .. below hi -/
  | rng (lo hi : Int)
  /-- a thing that is known to the object (the script; a dict while a loop walks it): read, never written while it is so -/
  | frz (o : Obj) (u : HO)
  /-- a code object's table -/
  | tbl (ps : Array Value)
  /-- any other thing, by what is true of its one object (a def of one's own: SetO a S n := HO.ext fun h => ..) -/
  | ext (φ : Heap → Prop)

abbrev Hp := Addr → Option HO
def upd (H : Hp) (a : Addr) (o : HO) : Hp := fun b => if b = a then some o else H b
theorem upd_same {H : Hp} {a : Addr} {o : HO} : upd H a o a = some o := by unfold upd; rw [if_pos rfl]
theorem upd_ne {H : Hp} {a b : Addr} {o : HO} (h : b ≠ a) : upd H a o b = H b := by unfold upd; rw [if_neg h]
theorem upd_upd {H : Hp} {a : Addr} {o u : HO} : upd (upd H a o) a u = upd H a u := by
  funext b; unfold upd; split <;> rfl
/-- two objects of different content stand apart -/
theorem ne_of {H : Hp} {a b : Addr} {o u : HO} (h : H a = some o) (h' : H b = some u) (d : o ≠ u) : a ≠ b := by
  intro e; subst e; rw [h] at h'; exact d (Option.some.inj h')
theorem ne_of_none {H : Hp} {a b : Addr} {o : HO} (h : H a = some o) (h' : H b = none) : a ≠ b := by
  intro e; subst e; rw [h] at h'; cases h'

section
variable (P : Program) (w : World)
def ObjOk (H : Hp) (h : Heap) (a : Addr) : HO → Prop
  | .lst xs => xs.length ≤ sizeLine ∧ ∃ (its : List Value) (n : Nat), Vals xs its ∧ h.get? a = some { cls := .type "list", data := .seq its.toArray n }
  | .tup xs => xs.length ≤ sizeLine ∧ ∃ its : List Value, Vals xs its ∧ IsTup h a its.toArray
  | .dK kvs => kvs.length ≤ sizeLine ∧ (a == sysModules) = false ∧ ∃ vs, KV kvs vs ∧ h.DictOf (mixKind P w) a vs
  | .dT kvs => kvs.length ≤ sizeLine ∧ (a == sysModules) = false ∧ ∃ xs : List (List Key × Addr × Value),
      Paired (fun (p : List Key × V) (q : List Key × Addr × Value) => p.1 = q.1 ∧ H q.2.1 = some (.tup (p.1.map kV)) ∧ RelV p.2 q.2.2) kvs xs ∧
      ∃ o es ep, h.get? a = some o ∧ o.ExactDict ∧ o.data = .dict es ep ∧ es.toList = xs.map (entryOfKey (tupleKind (mixKind P w))) ∧ (xs.map (·.1)).Nodup
  | .set S n => h.SetOf (intKind P w) a S n
  | .ins C dx fs => H dx = some (.own a) ∧ fs.length ≤ 1000 ∧ dx ≠ a ∧ h.get? a = some (PySem.W.instObj C dx) ∧
      ∃ mA, h.Ns1 dx mA ∧ (∀ f, RelO (fs.lookup f) (mA f)) ∧ PySem.Within mA (fs.map (·.1))
  | .own _ => ∃ o, h.get? a = some o
  | .xd fs => ∃ mA, h.Ns1 a mA ∧ ∀ f, RelO (fs.lookup f) (mA f)
  | .rng lo hi => ∃ t u v, h.get? a = some { cls := .type "range", data := .fields #[.int lo t, .int hi u, .int 1 v] }
  | .frz o u => h.get? a = some o ∧ ObjOk H h a u
  | .tbl ps => h.get? a = some { cls := .none, data := .fields ps }
  | .met f x => h.get? a = some (PySem.W.methodObj (.ref f) (.ref x))
  | .ext φ => φ h ∧ (∃ o, h.get? a = some o) ∧ ∀ h1 h2 : Heap, φ h1 → (∀ o, h1.get? a = some o → h2.get? a = some o) → φ h2
/-- the abstract heap is held -/
def HOk (H : Hp) (h : Heap) : Prop := ∀ a o, H a = some o → ObjOk P w H h a o
end

section
variable {P : Program} {w : World} {H H' : Hp} {h h' : Heap} {a : Addr} {o : HO}
theorem ObjOk.lt (x : ObjOk P w H h a o) : a < h.objs.size := by
  cases o with
  | lst xs => obtain ⟨_, _, _, _, e⟩ := x; exact Heap.lt_size e
  | tup xs => obtain ⟨_, _, _, p⟩ := x; exact p.lt
  | dK kvs => obtain ⟨_, _, _, _, o, _, _, e, _⟩ := x; exact Heap.lt_size e
  | dT kvs => obtain ⟨_, _, _, _, o, _, _, e, _⟩ := x; exact Heap.lt_size e
  | set S n => obtain ⟨o, _, _, _, e, _⟩ := x; exact Heap.lt_size e
  | ins C dx fs => obtain ⟨_, _, _, e, _⟩ := x; exact Heap.lt_size e
  | own y => obtain ⟨_, e⟩ := x; exact Heap.lt_size e
  | xd fs => obtain ⟨_, ⟨_, _, _, e, _⟩, _⟩ := x; exact Heap.lt_size e
  | rng lo hi => obtain ⟨_, _, _, e⟩ := x; exact Heap.lt_size e
  | frz ob u => obtain ⟨e, _⟩ := x; exact Heap.lt_size e
  | tbl ps => exact Heap.lt_size (show h.get? a = some _ from x)
  | met f y => exact Heap.lt_size (show h.get? a = some _ from x)
  | ext φ => obtain ⟨_, ⟨_, e⟩, _⟩ := x; exact Heap.lt_size e
theorem Paired.mapP {α β : Type} {F G : α → β → Prop} : ∀ {l₁ : List α} {l₂ : List β}, Paired F l₁ l₂ → (∀ a b, F a b → G a b) → Paired G l₁ l₂
  | _, _, .nil, _ => .nil
  | _, _, .cons r t, f => .cons (f _ _ r) (Paired.mapP t f)
/-- what an object's description leans on: its own object, its own dict, the tuples -/
theorem ObjOk.stay (x : ObjOk P w H h a o) (k : ∀ b u, (b = a ∨ H b = some (.own a)) → h.get? b = some u → h'.get? b = some u)
    (ho : ∀ b, H b = some (.own a) → H' b = some (.own a)) (ht : ∀ b xs, H b = some (.tup xs) → H' b = some (.tup xs)) : ObjOk P w H' h' a o := by
  induction o with
  | lst xs => obtain ⟨z, its, n, r, e⟩ := x; exact ⟨z, its, n, r, k _ _ (.inl rfl) e⟩
  | tup xs => obtain ⟨z, its, r, ob, e, c⟩ := x; exact ⟨z, its, r, ob, k _ _ (.inl rfl) e, c⟩
  | dK kvs => obtain ⟨z, y, vs, r, ob, es, ep, e, c⟩ := x; exact ⟨z, y, vs, r, ob, es, ep, k _ _ (.inl rfl) e, c⟩
  | dT kvs =>
    obtain ⟨z, y, xs, r, ob, es, ep, e, c⟩ := x
    exact ⟨z, y, xs, Paired.mapP r fun p q z => ⟨z.1, ht _ _ z.2.1, z.2.2⟩, ob, es, ep, k _ _ (.inl rfl) e, c⟩
  | set S n => obtain ⟨ob, es, ep, t, e, c⟩ := x; exact ⟨ob, es, ep, t, k _ _ (.inl rfl) e, c⟩
  | ins C dx fs =>
    obtain ⟨d, z, ne, e, mA, ⟨od, es, ep, e2, c⟩, r⟩ := x
    exact ⟨ho _ d, z, ne, k _ _ (.inl rfl) e, mA, ⟨od, es, ep, k _ _ (.inr d) e2, c⟩, r⟩
  | own y => obtain ⟨ob, e⟩ := x; exact ⟨ob, k _ _ (.inl rfl) e⟩
  | xd fs => obtain ⟨mA, ⟨od, es, ep, e, c⟩, r⟩ := x; exact ⟨mA, ⟨od, es, ep, k _ _ (.inl rfl) e, c⟩, r⟩
  | rng lo hi => obtain ⟨t, u, v, e⟩ := x; exact ⟨t, u, v, k _ _ (.inl rfl) e⟩
  | frz ob u ih => obtain ⟨e, q⟩ := x; exact ⟨k _ _ (.inl rfl) e, ih q⟩
  | tbl ps =>
    have e : h.get? a = some { cls := .none, data := .fields ps } := x
    show h'.get? a = some { cls := .none, data := .fields ps }
    exact k a _ (.inl rfl) e
  | met f y =>
    have e : h.get? a = some (PySem.W.methodObj (.ref f) (.ref y)) := x
    show h'.get? a = some (PySem.W.methodObj (.ref f) (.ref y))
    exact k a _ (.inl rfl) e
  | ext φ => obtain ⟨p, ⟨o, e⟩, st⟩ := x; exact ⟨st _ _ p fun o q => k _ _ (.inl rfl) q, ⟨o, k _ _ (.inl rfl) e⟩, st⟩
theorem HOk.lt (x : HOk P w H h) (e : H a = some o) : a < h.objs.size := (x a o e).lt
theorem HOk.fresh (x : HOk P w H h) (e : h.objs.size ≤ a) : H a = none := by
  cases q : H a with
  | none => rfl
  | some u => exact absurd (Nat.lt_of_lt_of_le (x.lt q) e) (Nat.lt_irrefl _)
/-- every object of the heap is kept -/
theorem HOk.kept (x : HOk P w H h) (k : ∀ b u, h.get? b = some u → h'.get? b = some u) : HOk P w H h' := fun a o e =>
  (x a o e).stay (fun b u _ q => k b u q) (fun _ q => q) fun _ _ q => q
/-- a new object is laid and tracked -/
theorem HOk.laid (x : HOk P w H h) (k : ∀ b u, h.get? b = some u → h'.get? b = some u) (hp : h.objs.size ≤ a) (new : ObjOk P w (upd H a o) h' a o) : HOk P w (upd H a o) h' := fun b u e => by
  have hn := x.fresh hp
  by_cases hb : b = a
  · subst hb; rw [upd_same] at e; cases e; exact new
  · rw [upd_ne hb] at e
    exact (x b u e).stay (fun c v _ q => k c v q) (fun c q => by rw [upd_ne (ne_of_none q hn)]; exact q) fun c xs q => by rw [upd_ne (ne_of_none q hn)]; exact q
end

/-- what may be read as u: it is u, or a known u -/
def Rd (H : Hp) (a : Addr) (u : HO) : Prop := H a = some u ∨ ∃ o, H a = some (.frz o u)
theorem Rd.of {H : Hp} {a : Addr} {u : HO} (h : H a = some u) : Rd H a u := .inl h
theorem Rd.ok {P : Program} {w : World} {H : Hp} {h : Heap} {a : Addr} {u : HO} (r : Rd H a u) (x : HOk P w H h) : ObjOk P w H h a u := by
  rcases r with r | ⟨o, r⟩
  · exact x a u r
  · obtain ⟨_, q⟩ := x a _ r
    exact q
/-- what may be written -/
def Mut : Option HO → Prop
  | some (.lst _) => True
  | some (.dK _) => True
  | some (.dT _) => True
  | some (.set _ _) => True
  | some (.ins _ _ _) => True
  | some (.ext _) => True
  | _ => False
section
variable {P : Program} {w : World} {H : Hp} {h h' : Heap} {x e : Addr} {o' : HO}
/-- the object at e is changed: x itself, or the dict of the instance x -/
theorem HOk.write (ok : HOk P w H h) (mu : Mut (H x)) (he : e = x ∨ H e = some (.own x)) (k : ∀ b u, b ≠ e → h.get? b = some u → h'.get? b = some u) (heo : ∃ u, h'.get? e = some u)
    (new : ObjOk P w (upd H x o') h' x o') : HOk P w (upd H x o') h' := fun b u q => by
  have nown : ∀ c y, H c = some (.own y) → c ≠ x := fun c y r z => by subst z; rw [r] at mu; exact mu
  have ntup : ∀ c xs, H c = some (.tup xs) → c ≠ x := fun c xs r z => by subst z; rw [r] at mu; exact mu
  by_cases hb : b = x
  · subst hb; rw [upd_same] at q; cases q; exact new
  · rw [upd_ne hb] at q
    by_cases hbe : b = e
    · have q' : H b = some (.own x) := by
        rcases he with z | z
        · exact absurd (hbe.trans z) hb
        · rw [hbe]; exact z
      rw [q] at q'; cases q'
      obtain ⟨v, hv⟩ := heo
      exact ⟨v, by rw [hbe]; exact hv⟩
    · refine (ok b u q).stay (fun c v hc r => k c v ?_ r) (fun c r => by rw [upd_ne (nown c b r)]; exact r) fun c xs r => by rw [upd_ne (ntup c xs r)]; exact r
      rcases hc with rfl | hc
      · exact hbe
      · rintro rfl
        rcases he with z | z
        · exact nown c b hc z
        · rw [hc] at z; cases z; exact hb rfl
end

/-! ### kept unless tracked; of the frames at fs (the callers') the slots may change (an exception that passes writes there); of the records at ex (iterators) nothing is said -/
structure Un (fs ex : List Addr) (H H' : Hp) (h h' : Heap) : Prop where
  keep : ∀ b o, h.get? b = some o → H b = none → b ∉ fs → b ∉ ex → h'.get? b = some o
  slot : ∀ b o, h.get? b = some o → H b = none → b ∈ fs → b ∉ ex → ∃ sl, h'.get? b = some { o with slots := sl }
  free : ∀ b o, h.get? b = some o → H b = none → b ∉ ex → H' b = none
  there : ∀ b o, h.get? b = some o → b ∉ ex → ∃ o', h'.get? b = some o'
  tups : ∀ b xs, H b = some (.tup xs) → H' b = some (.tup xs)
  frzs : ∀ b o u, H b = some (.frz o u) → H' b = some (.frz o u)
  tbls : ∀ b ps, H b = some (.tbl ps) → ∃ more, H' b = some (.tbl (ps ++ more))
section
variable {fs fs' ex ex' : List Addr} {H H1 H2 : Hp} {h h1 h2 h' : Heap} {a x e : Addr} {o : HO}
theorem Un.any (u : Un fs ex H H1 h h1) {b : Addr} {ob : Obj} (q : h.get? b = some ob) (n : H b = none) (hx : b ∉ ex) : ∃ sl, h1.get? b = some { ob with slots := sl } := by
  by_cases hb : b ∈ fs
  · exact u.slot b ob q n hb hx
  · exact ⟨ob.slots, u.keep b ob q n hb hx⟩
theorem Un.trans (a : Un fs ex H H1 h h1) (b : Un fs ex H1 H2 h1 h2) : Un fs ex H H2 h h2 where
  keep := fun c ob q n hc hx => b.keep c ob (a.keep c ob q n hc hx) (a.free c ob q n hx) hc hx
  slot := fun c ob q n hc hx => by
    obtain ⟨sl, e1⟩ := a.slot c ob q n hc hx
    obtain ⟨sl', e2⟩ := b.slot c _ e1 (a.free c ob q n hx) hc hx
    exact ⟨sl', e2⟩
  free := fun c ob q n hx => by
    obtain ⟨o', e1⟩ := a.there c ob q hx
    exact b.free c o' e1 (a.free c ob q n hx) hx
  there := fun c ob q hx => by
    obtain ⟨o', e1⟩ := a.there c ob q hx
    exact b.there c o' e1 hx
  tups := fun c xs q => b.tups c xs (a.tups c xs q)
  frzs := fun c ob xs q => b.frzs c ob xs (a.frzs c ob xs q)
  tbls := fun c ps q => by
    obtain ⟨m1, e1⟩ := a.tbls c ps q
    obtain ⟨m2, e2⟩ := b.tbls c _ e1
    exact ⟨m1 ++ m2, by rw [e2, Array.append_assoc]⟩
theorem Un.kept (k : ∀ b u, h.get? b = some u → h'.get? b = some u) : Un fs ex H H h h' :=
  ⟨fun b ob q _ _ _ => k b ob q, fun b ob q _ _ _ => ⟨ob.slots, k b ob q⟩, fun _ _ _ n _ => n, fun b ob q _ => ⟨ob, k b ob q⟩, fun _ _ q => q, fun _ _ _ q => q, fun _ ps q => ⟨#[], by rw [q]; simp⟩⟩
theorem Un.refl : Un fs ex H H h h := Un.kept fun _ _ q => q
theorem Un.laid (k : ∀ b u, h.get? b = some u → h'.get? b = some u) (hp : h.objs.size ≤ a) (hn : H a = none) : Un fs ex H (upd H a o) h h' where
  keep := fun b u q _ _ _ => k b u q
  slot := fun b u q _ _ _ => ⟨u.slots, k b u q⟩
  free := fun b u q n _ => by rw [upd_ne (Nat.ne_of_lt (Nat.lt_of_lt_of_le (Heap.lt_size q) hp))]; exact n
  there := fun b u q _ => ⟨u, k b u q⟩
  tups := fun b xs q => by rw [upd_ne (ne_of_none q hn)]; exact q
  frzs := fun b u xs q => by rw [upd_ne (ne_of_none q hn)]; exact q
  tbls := fun b ps q => ⟨#[], by rw [upd_ne (ne_of_none q hn), q]; simp⟩
theorem Un.write (mu : Mut (H x)) (he : e = x ∨ H e = some (.own x)) (k : ∀ b u, b ≠ e → h.get? b = some u → h'.get? b = some u) (heo : ∃ u, h'.get? e = some u) : Un fs ex H (upd H x o) h h' := by
  have hx : ∀ b, H b = none → b ≠ x := fun b n z => by subst z; rw [n] at mu; exact mu
  have hb : ∀ b, H b = none → b ≠ e := fun b n z => by
    subst z
    rcases he with r | r
    · exact hx b n r
    · rw [n] at r; cases r
  have hm : ∀ b u, H b = some u → ¬ Mut (some u) → b ≠ x := fun b u q nm z => by subst z; rw [q] at mu; exact nm mu
  refine ⟨fun b u q n _ _ => k b u (hb b n) q, fun b u q n _ _ => ⟨u.slots, k b u (hb b n) q⟩, fun b u q n _ => by rw [upd_ne (hx b n)]; exact n, fun b u q _ => ?_,
    fun b xs q => by rw [upd_ne (hm b _ q fun z => z)]; exact q, fun b u xs q => by rw [upd_ne (hm b _ q fun z => z)]; exact q, fun b ps q => ⟨#[], by rw [upd_ne (hm b _ q fun z => z), q]; simp⟩⟩
  by_cases hbe : b = e
  · subst hbe; exact heo
  · exact ⟨u, k b u hbe q⟩
theorem Un.mono (u : Un fs ex H H1 h h1) (hs : ∀ b ∈ fs, b ∈ fs') (hx : ∀ b ∈ ex, b ∈ ex') : Un fs' ex' H H1 h h1 :=
  ⟨fun b ob q n hb he => u.keep b ob q n (fun z => hb (hs b z)) fun z => he (hx b z), fun _ _ q n _ he => u.any q n fun z => he (hx _ z), fun b ob q n he => u.free b ob q n fun z => he (hx b z), fun b ob q he => u.there b ob q fun z => he (hx b z), u.tups, u.frzs, u.tbls⟩
end

/-! ### the heap without what is tracked -/
def trk (h : Heap) (H : Hp) : List Addr := (List.range h.objs.size).filter fun a => (H a).isSome
def hidT (h : Heap) (H : Hp) : Heap := PySem.W.hideAll h (trk h H)
theorem hidT_size (h : Heap) (H : Hp) : (hidT h H).objs.size = h.objs.size := PySem.W.hideAll_size _ _
theorem hidT_get {h : Heap} {H : Hp} {b : Addr} {o : Obj} (e : h.get? b = some o) (n : H b = none) : (hidT h H).get? b = some o :=
  PySem.W.hideAll_get _ e fun hm => by
    have q : (H b).isSome = true := (List.mem_filter.mp hm).2
    rw [n] at q; simp at q
theorem of_hidT {h : Heap} {H : Hp} {b : Addr} {o : Obj} (e : (hidT h H).get? b = some o) : h.get? b = some o ∧ H b = none := by
  have e' : h.get? b = some o := PySem.W.of_hideAll (trk h H) e
  refine ⟨e', ?_⟩
  cases q : H b with
  | none => rfl
  | some x =>
    have hm : b ∈ trk h H := List.mem_filter.mpr ⟨List.mem_range.mpr (Heap.lt_size e'), by simp [q]⟩
    have z : (hidT h H).get? b = none := PySem.W.hideAll_none (trk h H) hm
    rw [z] at e; cases e

/-! ### OpenK's ledger, filled with every new object but one -/
def allNews (g h : Heap) (L : Addr) : List (Addr × Obj) := (List.range h.objs.size).filterMap fun a => if a = L ∨ (g.get? a).isSome = true then none else (h.get? a).map fun o => (a, o)
def rest (g h : Heap) (L d : Addr) : List (Addr × Obj) := (allNews g h L).filter fun p => decide (p.1 ≠ d)
end L2

namespace L2
open PySem PySem.Spec PyProof.Rows

/-- the module's facts, over the base: the heap at the law's entry without what is tracked there -/
structure Mod (K : PySem.W.Frag) (mg : Str → Option Value) (base : Heap) : Prop where
  kin : K.In base
  glob : base.Ns mainGlobals mg
  blt : ∃ mb, base.Ns builtinsNs mb ∧ ∀ x : Str, x ≠ "__name__" → mb x = bootBuiltins x
  nolimit : base.NoLimit

/-- the context: a def's body (or a comprehension's block) running. base: fixed through the whole law; s₀, H₀: the entry; outer: the frames whose slots others may change (a def's callers); stack: all frames that run;
   ex: iterators that were made ahead of the entry and are walked here (a comprehension's); fn: the names whose cells were made at the entry (a def: all; a comprehension's block: its own); calm: not within an except suite; pn: pins that every state bears; xe: what is wanted of an exception that leaves the code -/
structure Cx where
  prog : Program
  w : World
  K : PySem.W.Frag
  mg : Str → Option Value
  base : Heap
  A : Around
  N : List Str
  s₀ : Shared
  H₀ : Hp
  env : Env
  outer : List Env
  stack : List Env
  ex : List Addr
  fn : Str → Bool
  calm : Bool
  pn : List (Addr × Obj)
  xe : Value → Shared → Prop
/-- the callers' frames -/
def frs (l : List Env) : List Addr := l.filterMap (·.frame)
abbrev Cx.fs (X : Cx) : List Addr := frs X.outer

def Vis (sc : Scope) (x : Str) : Prop := sc.names.lookup x = some .local ∨ sc.names.lookup x = some .cell ∨ sc.names.lookup x = some .free
def Loc (sc : Scope) (x : Str) : Prop := sc.names.lookup x = some .local ∨ sc.names.lookup x = some .cell
def Look (env : Env) (h : Heap) (m : Str → Option Value) (x : Str) (u : Value) : Prop :=
  (env.kindOf x = some .local ∧ m x = some u) ∨ ((env.kindOf x = some .cell ∨ env.kindOf x = some .free) ∧ ∃ c, env.cells.lookup x = some c ∧ h.IsCell c (some u))

structure Cx.Ok (X : Cx) : Prop where
  mod : Mod X.K X.mg X.base
  kind : X.env.scope.kind = .function
  glob : X.env.globals = mainGlobals
  blt : X.env.builtins = builtinsNs
  above : X.s₀.heap.objs.size ≤ X.env.locals
  inj : ∀ x y c, X.env.cells.lookup x = some c → X.env.cells.lookup y = some c → x = y
  has : ∀ x, (X.env.kindOf x = some .cell ∨ X.env.kindOf x = some .free) → ∃ c, X.env.cells.lookup x = some c
  cab : ∀ x c, X.fn x = true → X.env.cells.lookup x = some c → X.s₀.heap.objs.size ≤ c
  hd : X.calm = true → X.A.handled = none
  frames : X.A.frames = some X.stack
  stk : X.stack = X.outer ∨ (X.stack = X.env :: X.outer ∧ X.env.frame = some X.env.locals)
  exf : ∀ b ∈ X.ex, b ≠ X.env.locals ∧ ∀ x c, X.env.cells.lookup x = some c → c ≠ b
  bs : ∀ b o, X.base.get? b = some o → X.s₀.heap.get? b = some o ∧ X.H₀ b = none
  bsz : X.base.objs.size ≤ X.s₀.heap.objs.size
  noex : ∀ b o, X.base.get? b = some o → b ∉ X.ex
  exfs : ∀ b ∈ X.ex, b ∉ X.fs
  funs : X.s₀.heap.FunFrames X.base X.outer
  frf : ∀ b ∈ X.fs, X.H₀ b = none

structure Inv (X : Cx) (pins : List (Addr × Obj)) (σ : List (Option V)) (H : Hp) (s : Shared) : Prop where
  ok : X.Ok
  os : s.os = X.s₀.os
  bare : AllBare s.gens
  base : Un X.fs X.ex X.H₀ H X.s₀.heap s.heap
  loc : ∃ m, s.heap.Ns X.env.locals m ∧ ∀ (i : Nat) (x : Str) (v : V), X.N[i]? = some x → σ[i]? = some (some v) → Vis X.env.scope x → ∃ u, RelV v u ∧ Look X.env s.heap m x u
  cell : ∀ x c, X.env.cells.lookup x = some c → ∃ v, s.heap.IsCell c v
  free : H X.env.locals = none
  freeC : ∀ x c, X.env.cells.lookup x = some c → H c = none
  pin : ∀ p ∈ X.pn ++ pins, s.heap.get? p.1 = some p.2 ∧ H p.1 = none ∧ p.1 ≠ X.env.locals ∧ p.1 ∉ X.fs ∧ ∀ v, p.2.data ≠ .cell v
  hok : HOk X.prog X.w H s.heap
  len : σ.length = X.N.length

section
variable {X : Cx} {pins : List (Addr × Obj)} {σ : List (Option V)} {H H' : Hp} {s : Shared} {h' : Heap}

theorem Cx.Ok.nofr (ok : X.Ok) {b : Addr} {o : Obj} (e : X.base.get? b = some o) : b ∉ X.fs := fun hb => by
  have := (ok.funs.mem hb).1
  rw [e] at this; cases this
theorem Inv.bs (I : Inv X pins σ H s) : ∀ b o, X.base.get? b = some o → s.heap.get? b = some o ∧ H b = none := fun b o e =>
  ⟨I.base.keep b o (I.ok.bs b o e).1 (I.ok.bs b o e).2 (I.ok.nofr e) (I.ok.noex b o e), I.base.free b o (I.ok.bs b o e).1 (I.ok.bs b o e).2 (I.ok.noex b o e)⟩
theorem Inv.bk (I : Inv X pins σ H s) : ∀ b o, X.base.get? b = some o → s.heap.get? b = some o := fun b o e => (I.bs b o e).1
theorem Inv.mod (I : Inv X pins σ H s) : Mod X.K X.mg X.base := I.ok.mod
theorem Inv.kIn (I : Inv X pins σ H s) : X.K.In s.heap := I.ok.mod.kin.keeps I.bk
theorem Inv.nolimit (I : Inv X pins σ H s) : s.heap.NoLimit := I.ok.mod.nolimit.keeps I.bk
/-- the frame over the base: for OpenK's rules (K.In X.base is I.mod.kin) -/
theorem Inv.fr (I : Inv X pins σ H s) : ∃ m, Fr X.base X.env.locals s.heap m :=
  let ⟨m, hn, _⟩ := I.loc
  ⟨m, hn, I.bk, Nat.le_trans I.ok.bsz I.ok.above⟩
theorem Inv.lt (I : Inv X pins σ H s) : X.env.locals < s.heap.objs.size := let ⟨_, hn, _⟩ := I.loc; hn.lt
theorem Inv.sz (I : Inv X pins σ H s) : X.s₀.heap.objs.size ≤ s.heap.objs.size := Nat.le_trans I.ok.above (Nat.le_of_lt I.lt)
theorem Inv.nofs (I : Inv X pins σ H s) {a : Addr} (h : s.heap.objs.size ≤ a) : a ∉ X.fs := fun hb => by
  obtain ⟨_, o, ho, _⟩ := I.ok.funs.mem hb
  exact absurd (Nat.lt_of_lt_of_le (Heap.lt_size ho) (Nat.le_trans I.sz h)) (Nat.lt_irrefl _)
theorem Inv.cne (I : Inv X pins σ H s) : ∀ x c, X.env.cells.lookup x = some c → c ≠ X.env.locals := fun x c e z => by
  obtain ⟨v, o, ho, hd⟩ := I.cell x c e
  obtain ⟨m, ⟨o', es, ep, ho', hd', _⟩, _⟩ := I.loc
  rw [z, ho'] at ho; cases ho; rw [hd'] at hd; cases hd
theorem Inv.funs (I : Inv X pins σ H s) : s.heap.FunFrames X.base X.outer := by
  have all : ∀ (l : List Env), (∀ b ∈ frs l, b ∈ X.fs) → X.s₀.heap.FunFrames X.base l → s.heap.FunFrames X.base l := by
    intro l
    induction l with
    | nil => intro _ _; trivial
    | cons env r ih =>
      intro hs hl
      obtain ⟨hk, ⟨L, o, hf, hn, ho, hd⟩, hr⟩ := hl
      have hL : L ∈ X.fs := hs L (by unfold frs; rw [List.filterMap_cons, hf]; exact List.mem_cons_self)
      obtain ⟨sl, e⟩ := I.base.slot L o ho (I.ok.frf L hL) hL fun z => I.ok.exfs L z hL
      exact ⟨hk, ⟨L, _, hf, hn, e, hd⟩, ih (fun b hb => hs b (by unfold frs; rw [List.filterMap_cons, hf]; exact List.mem_cons_of_mem _ hb)) hr⟩
  exact all X.outer (fun _ hb => hb) I.ok.funs

/-- the frames that run, for a call -/
theorem Inv.stack (I : Inv X pins σ H s) : s.heap.FunFrames X.base X.stack := by
  rcases I.ok.stk with e | ⟨e, hf⟩
  · rw [e]; exact I.funs
  · rw [e]
    obtain ⟨m, hn, _⟩ := I.loc
    refine .cons (by rw [I.ok.kind]; decide) hf hn ?_ I.funs
    exact Heap.get?_none_of_le (Nat.le_trans I.ok.bsz I.ok.above)
theorem Inv.stkSub (I : Inv X pins σ H s) : ∀ b ∈ frs X.stack, b ∈ X.env.locals :: X.fs := fun b hb => by
  rcases I.ok.stk with e | ⟨e, hf⟩
  · rw [e] at hb; exact List.mem_cons_of_mem _ hb
  · rw [e] at hb
    unfold frs at hb
    rw [List.filterMap_cons, hf] at hb
    exact hb
theorem Inv.stkFree (I : Inv X pins σ H s) : ∀ b ∈ frs X.stack, H b = none := fun b hb => by
  rcases List.mem_cons.mp (I.stkSub b hb) with e | hb
  · rw [e]; exact I.free
  · obtain ⟨_, o, ho, _⟩ := I.ok.funs.mem hb
    exact I.base.free b o ho (I.ok.frf b hb) fun z => I.ok.exfs b z hb

/-- THE STEP: the untracked objects but the frame and the records at ch are kept (the callers' frames up to slots), the frame's map is kept, the new abstract heap is held -/
theorem Inv.step {g' : Array GenState} {t' : Nat} {d' : Drawn} {ch : List Addr} (I : Inv X pins σ H s)
    (hch : ∀ b ∈ ch, (b ∈ X.ex ∨ X.s₀.heap.objs.size ≤ b) ∧ b ≠ X.env.locals ∧ (∀ x c, X.env.cells.lookup x = some c → c ≠ b) ∧ ∀ p ∈ X.pn ++ pins, p.1 ≠ b)
    (keep : ∀ b o, b ≠ X.env.locals → b ∉ X.fs → b ∉ ch → s.heap.get? b = some o → H b = none → h'.get? b = some o)
    (slot : ∀ b o, b ≠ X.env.locals → b ∈ X.fs → b ∉ ch → s.heap.get? b = some o → H b = none → ∃ sl, h'.get? b = some { o with slots := sl }) (free : ∀ b o, b ∉ ch → s.heap.get? b = some o → H b = none → H' b = none)
    (there : ∀ b o, b ∉ ch → s.heap.get? b = some o → ∃ o', h'.get? b = some o')
    (tups : ∀ b xs, H b = some (.tup xs) → H' b = some (.tup xs)) (frzs : ∀ b o u, H b = some (.frz o u) → H' b = some (.frz o u)) (tbls : ∀ b ps, H b = some (.tbl ps) → ∃ more, H' b = some (.tbl (ps ++ more)))
    (ns : ∀ m, s.heap.Ns X.env.locals m → h'.Ns X.env.locals m) (hok : HOk X.prog X.w H' h') (hg : AllBare g') :
    Inv X pins σ H' { s with heap := h', gens := g', drawn := d', toks := t' } := by
  have neL : ∀ b o, X.s₀.heap.get? b = some o → b ≠ X.env.locals := fun b o e => Nat.ne_of_lt (Nat.lt_of_lt_of_le (Heap.lt_size e) I.ok.above)
  have neC : ∀ b o, X.s₀.heap.get? b = some o → b ∉ X.ex → b ∉ ch := fun b o e hx hb => by
    rcases (hch b hb).1 with z | z
    · exact hx z
    · exact absurd (Nat.lt_of_lt_of_le (Heap.lt_size e) z) (Nat.lt_irrefl _)
  have cellK : ∀ x c, X.env.cells.lookup x = some c → ∀ v, s.heap.IsCell c v → h'.IsCell c v := fun x c e v ⟨o, ho, hd⟩ => by
    have nch : c ∉ ch := fun z => (hch c z).2.2.1 x c e rfl
    by_cases hc : c ∈ X.fs
    · obtain ⟨sl, q⟩ := slot c o (I.cne x c e) hc nch ho (I.freeC x c e)
      exact ⟨_, q, hd⟩
    · exact ⟨o, keep c o (I.cne x c e) hc nch ho (I.freeC x c e), hd⟩
  refine ⟨I.ok, I.os, hg, ⟨fun b o e n hb hx => ?_, fun b o e n hb hx => ?_, fun b o e n hx => ?_, fun b o e hx => ?_, fun b xs e => tups b xs (I.base.tups b xs e), fun b o xs e => frzs b o xs (I.base.frzs b o xs e), fun b ps e => ?_⟩, ?_, fun x c e => ?_, ?_, fun x c e => ?_, fun p hp => ?_, hok, I.len⟩
  · exact keep b o (neL b o e) hb (neC b o e hx) (I.base.keep b o e n hb hx) (I.base.free b o e n hx)
  · obtain ⟨sl, e1⟩ := I.base.slot b o e n hb hx
    obtain ⟨sl', e2⟩ := slot b _ (neL b o e) hb (neC b o e hx) e1 (I.base.free b o e n hx)
    exact ⟨sl', e2⟩
  · obtain ⟨o', e1⟩ := I.base.there b o e hx
    exact free b o' (neC b o e hx) e1 (I.base.free b o e n hx)
  · obtain ⟨o', e1⟩ := I.base.there b o e hx
    exact there b o' (neC b o e hx) e1
  · obtain ⟨m1, e1⟩ := I.base.tbls b ps e
    obtain ⟨m2, e2⟩ := tbls b _ e1
    exact ⟨m1 ++ m2, by rw [e2, Array.append_assoc]⟩
  · obtain ⟨m, hn, hl⟩ := I.loc
    refine ⟨m, ns m hn, fun i x v e1 e2 e3 => ?_⟩
    obtain ⟨u, r, l⟩ := hl i x v e1 e2 e3
    refine ⟨u, r, ?_⟩
    rcases l with l | ⟨k, c, e, z⟩
    · exact .inl l
    · exact .inr ⟨k, c, e, cellK x c e _ z⟩
  · obtain ⟨v, z⟩ := I.cell x c e
    exact ⟨v, cellK x c e v z⟩
  · obtain ⟨m, ⟨o, _, _, ho, _⟩, _⟩ := I.loc
    exact free _ o (fun z => (hch _ z).2.1 rfl) ho I.free
  · obtain ⟨v, o, ho, hd⟩ := I.cell x c e
    exact free c o (fun z => (hch c z).2.2.1 x c e rfl) ho (I.freeC x c e)
  · obtain ⟨e, n, ne, nf, d⟩ := I.pin p hp
    have nch : p.1 ∉ ch := fun z => (hch p.1 z).2.2.2 p hp rfl
    exact ⟨keep p.1 p.2 ne nf nch e n, free p.1 p.2 nch e n, ne, nf, d⟩
/-- .. where the frame's own object is kept too -/
theorem Inv.un {t' : Nat} (I : Inv X pins σ H s) (u : Un X.fs [] H H' s.heap h') (hok : HOk X.prog X.w H' h') : Inv X pins σ H' { s with heap := h', toks := t' } := by
  obtain ⟨m, ⟨o, es, ep, ho, r⟩, _⟩ := id I.loc
  obtain ⟨sl, hL⟩ := u.any ho I.free (by simp)
  exact I.step (g' := s.gens) (d' := s.drawn) (ch := []) (fun _ z => nomatch z) (fun b o _ hb _ e n => u.keep b o e n hb (by simp)) (fun b o _ hb _ e n => u.slot b o e n hb (by simp)) (fun b o _ e n => u.free b o e n (by simp)) (fun b o _ e => u.there b o e (by simp)) u.tups u.frzs u.tbls (fun m' hm => by
    obtain ⟨o', es', ep', ho', r'⟩ := hm
    rw [ho] at ho'; cases ho'
    exact ⟨_, es', ep', hL, r'⟩) hok I.bare
/-- behind a call (or a comprehension's block): the slots of this frame may have changed too, the records at ch may have turned -/
theorem Inv.call {g' : Array GenState} {t' : Nat} {d' : Drawn} {ch : List Addr} (I : Inv X pins σ H s) (u : Un (frs X.stack) ch H H' s.heap h') (hok : HOk X.prog X.w H' h') (hg : AllBare g')
    (hch : ∀ b ∈ ch, (b ∈ X.ex ∨ X.s₀.heap.objs.size ≤ b) ∧ b ≠ X.env.locals ∧ (∀ x c, X.env.cells.lookup x = some c → c ≠ b) ∧ ∀ p ∈ X.pn ++ pins, p.1 ≠ b) :
    Inv X pins σ H' { s with heap := h', gens := g', drawn := d', toks := t' } := by
  obtain ⟨m, ⟨o, es, ep, ho, r⟩, _⟩ := id I.loc
  obtain ⟨sl, hL⟩ := u.any ho I.free fun z => (hch _ z).2.1 rfl
  exact I.step (ch := ch) hch (fun b o hL hb hc e n => u.keep b o e n (fun z => (List.mem_cons.mp (I.stkSub b z)).elim hL hb) hc) (fun b o _ _ hc e n => u.any e n hc) (fun b o hc e n => u.free b o e n hc) (fun b o hc e => u.there b o e hc) u.tups u.frzs u.tbls (fun m' hm => by
    obtain ⟨o', es', ep', ho', r'⟩ := hm
    rw [ho] at ho'; cases ho'
    exact ⟨_, es', ep', hL, r'⟩) hok hg
/-- an untracked record of ours (an iterator) has turned -/
theorem Inv.turned {t' : Nat} {it : Addr} (I : Inv X pins σ H s) (k : ∀ b o, b ≠ it → s.heap.get? b = some o → h'.get? b = some o) (hn : H it = none) (hL : it ≠ X.env.locals)
    (h1 : it ∈ X.ex ∨ X.s₀.heap.objs.size ≤ it) (h2 : ∀ x c, X.env.cells.lookup x = some c → c ≠ it) (h3 : ∀ p ∈ X.pn ++ pins, p.1 ≠ it) : Inv X pins σ H { s with heap := h', toks := t' } := by
  have nit : ∀ b u, H b = some u → b ≠ it := fun b u e z => by rw [z, hn] at e; cases e
  refine I.step (g' := s.gens) (d' := s.drawn) (ch := [it]) (fun b hb => ?_) (fun b o _ _ hc e _ => k b o (fun z => hc (by simp [z])) e) (fun b o _ _ hc e _ => ⟨o.slots, k b o (fun z => hc (by simp [z])) e⟩) (fun _ _ _ _ n => n)
    (fun b o hc e => ⟨o, k b o (fun z => hc (by simp [z])) e⟩) (fun _ _ e => e) (fun _ _ _ e => e) (fun b ps e => ⟨#[], by rw [e]; simp⟩) (fun m hm => ?_) (fun b u e => ?_) I.bare
  · have e : b = it := by simpa using hb
    subst e
    exact ⟨h1, hL, h2, h3⟩
  · obtain ⟨o, es, ep, ho, r⟩ := hm
    exact ⟨o, es, ep, k _ o (Ne.symm hL) ho, r⟩
  · refine (I.hok b u e).stay (fun c v hc q => k c v ?_ q) (fun _ q => q) fun _ _ q => q
    rcases hc with z | z
    · rw [z]; exact nit b u e
    · exact nit c _ z
theorem Inv.tok (I : Inv X pins σ H s) (t : Nat) : Inv X pins σ H { s with toks := t } := I.un (h' := s.heap) (t' := t) Un.refl I.hok
/-- all objects kept -/
theorem Inv.kept {t' : Nat} (I : Inv X pins σ H s) (k : ∀ b u, s.heap.get? b = some u → h'.get? b = some u) : Inv X pins σ H { s with heap := h', toks := t' } := I.un (Un.kept k) (I.hok.kept k)
/-- a new object laid and tracked -/
theorem Inv.laid {a : Addr} {o : HO} {t' : Nat} (I : Inv X pins σ H s) (k : ∀ b u, s.heap.get? b = some u → h'.get? b = some u) (hp : s.heap.objs.size ≤ a) (new : ObjOk X.prog X.w (upd H a o) h' a o) :
    Inv X pins σ (upd H a o) { s with heap := h', toks := t' } := I.un (Un.laid k hp (I.hok.fresh hp)) (I.hok.laid k hp new)
/-- an object written -/
theorem Inv.write {x e : Addr} {o : HO} {t' : Nat} (I : Inv X pins σ H s) (mu : Mut (H x)) (he : e = x ∨ H e = some (.own x)) (k : ∀ b u, b ≠ e → s.heap.get? b = some u → h'.get? b = some u) (heo : ∃ u, h'.get? e = some u)
    (new : ObjOk X.prog X.w (upd H x o) h' x o) : Inv X pins σ (upd H x o) { s with heap := h', toks := t' } := I.un (Un.write mu he k heo) (I.hok.write mu he k heo new)
theorem Inv.pins_of {pins' : List (Addr × Obj)} (I : Inv X pins σ H s) (h : ∀ p ∈ pins', s.heap.get? p.1 = some p.2 ∧ H p.1 = none ∧ p.1 ≠ X.env.locals ∧ p.1 ∉ X.fs ∧ ∀ v, p.2.data ≠ .cell v) : Inv X pins' σ H s :=
  ⟨I.ok, I.os, I.bare, I.base, I.loc, I.cell, I.free, I.freeC, fun p hp => (List.mem_append.mp hp).elim (fun z => I.pin p (List.mem_append_left _ z)) (h p), I.hok, I.len⟩

theorem nodup_ix {N : List Str} (hN : N.Nodup) {i j : Nat} {x : Str} (a : N[i]? = some x) (b : N[j]? = some x) : i = j := by
  obtain ⟨h1, e1⟩ := List.getElem?_eq_some_iff.mp a
  obtain ⟨h2, e2⟩ := List.getElem?_eq_some_iff.mp b
  exact (List.getElem_inj hN).mp (e1.trans e2.symm)

/-- a name is stored; what changed -/
theorem store_ok2 {M : Model} {A : Around} {E : Value → Shared → Prop} {i : Nat} {x : Str} {v : V} {u : Value} {Q : Unit → Shared → Prop} (I : Inv X pins σ H s) (hN : X.N.Nodup) (hi : X.N[i]? = some x) (hx : Loc X.env.scope x) (r : RelV v u)
    (h : ∀ s', Inv X pins (σ.set i (some v)) H s' → (∃ a, Heap.SameBut a s.heap s'.heap ∧ (a = X.env.locals ∨ X.env.cells.lookup x = some a)) → Q () s') (hf : X.fn x = true ∨ X.env.scope.names.lookup x = some .local := by first | exact .inl rfl | exact .inr rfl | assumption) : wpAny M A (storeName X.env x u) Q E s := by
  obtain ⟨m, hn, hl⟩ := id I.loc
  have hcls : (X.env.scope.kind == .class || (X.env.scope.kind == .module && X.env.locals != X.env.globals)) = false := by rw [I.ok.kind]; rfl
  have hiσ : i < σ.length := by rw [I.len]; exact (List.getElem?_eq_some_iff.mp hi).1
  have cne := I.cne
  have tracked : ∀ {a : Addr} {h' : Heap}, (∃ o, s.heap.get? a = some o ∧ H a = none) → Heap.SameBut a s.heap h' → HOk X.prog X.w H h' := fun {a h'} ha hs b ob e => by
    obtain ⟨_, _, hfree⟩ := ha
    refine (I.hok b ob e).stay (fun c w' hc q => (hs.2 c ?_).trans q) (fun _ q => q) fun _ _ q => q
    rintro rfl
    rcases hc with rfl | hc
    · rw [hfree] at e; cases e
    · rw [hfree] at hc; cases hc
  rcases hx with hk | hk
  · refine wpAny_storeName_local hk hn (fun h' hn' hs => ?_) hcls
    obtain ⟨oL, _, _, hoL, _⟩ := id hn
    refine h _ ⟨I.ok, I.os, I.bare, ⟨fun b o e n hb hx => ?_, fun b o e n hb hx => ?_, I.base.free, fun b o e hx => ?_, I.base.tups, I.base.frzs, I.base.tbls⟩, ⟨_, hn', fun j y v' e1 e2 e3 => ?_⟩, fun y c e => ?_, I.free, I.freeC, fun p hp => ?_, tracked ⟨oL, hoL, I.free⟩ hs, by simpa using I.len⟩ ⟨_, hs, .inl rfl⟩
    · exact (hs.2 b (Nat.ne_of_lt (Nat.lt_of_lt_of_le (Heap.lt_size e) I.ok.above))).trans (I.base.keep b o e n hb hx)
    · obtain ⟨sl, e1⟩ := I.base.slot b o e n hb hx
      exact ⟨sl, (hs.2 b (Nat.ne_of_lt (Nat.lt_of_lt_of_le (Heap.lt_size e) I.ok.above))).trans e1⟩
    · obtain ⟨o', e1⟩ := I.base.there b o e hx
      exact ⟨o', (hs.2 b (Nat.ne_of_lt (Nat.lt_of_lt_of_le (Heap.lt_size e) I.ok.above))).trans e1⟩
    · by_cases hj : j = i
      · subst hj
        rw [hi] at e1; cases e1
        rw [List.getElem?_set_self hiσ] at e2
        cases e2
        exact ⟨u, r, .inl ⟨hk, by simp⟩⟩
      · rw [List.getElem?_set_ne (Ne.symm hj)] at e2
        obtain ⟨u', r', q⟩ := hl j y v' e1 e2 e3
        refine ⟨u', r', ?_⟩
        rcases q with ⟨k, e⟩ | ⟨k, c, e, z⟩
        · refine .inl ⟨k, ?_⟩
          have : y ≠ x := fun e => hj (nodup_ix hN e1 (e ▸ hi))
          simp [this, e]
        · exact .inr ⟨k, c, e, z.sameBut hs (cne y c e)⟩
    · obtain ⟨w', z⟩ := I.cell y c e
      exact ⟨w', z.sameBut hs (cne y c e)⟩
    · obtain ⟨e, n, ne, nf, d⟩ := I.pin p hp
      exact ⟨(hs.2 p.1 ne).trans e, n, ne, nf, d⟩
  · have hfn : X.fn x = true := by
      rcases hf with z | z
      · exact z
      · rw [z] at hk; cases hk
    obtain ⟨c, hc⟩ := I.ok.has x (.inl hk)
    obtain ⟨w', z⟩ := I.cell x c hc
    refine wpAny_storeName_cell I.ok.kind hk hc z (fun h' hc' hs => ?_)
    obtain ⟨oc, hoc, hocd⟩ := id z
    refine h { s with heap := h' } ⟨I.ok, I.os, I.bare, ⟨fun b o e n hb hx => ?_, fun b o e n hb hx => ?_, I.base.free, fun b o e hx => ?_, I.base.tups, I.base.frzs, I.base.tbls⟩, ⟨m, hn.sameBut hs (Ne.symm (cne x c hc)), fun j y v' e1 e2 e3 => ?_⟩, fun y c' e => ?_, I.free, I.freeC, fun p hp => ?_, tracked ⟨oc, hoc, I.freeC x c hc⟩ hs, by simpa using I.len⟩ ⟨c, hs, .inr hc⟩
    · exact (hs.2 b (Nat.ne_of_lt (Nat.lt_of_lt_of_le (Heap.lt_size e) (I.ok.cab x c hfn hc)))).trans (I.base.keep b o e n hb hx)
    · obtain ⟨sl, e1⟩ := I.base.slot b o e n hb hx
      exact ⟨sl, (hs.2 b (Nat.ne_of_lt (Nat.lt_of_lt_of_le (Heap.lt_size e) (I.ok.cab x c hfn hc)))).trans e1⟩
    · obtain ⟨o', e1⟩ := I.base.there b o e hx
      exact ⟨o', (hs.2 b (Nat.ne_of_lt (Nat.lt_of_lt_of_le (Heap.lt_size e) (I.ok.cab x c hfn hc)))).trans e1⟩
    · by_cases hj : j = i
      · subst hj
        rw [hi] at e1; cases e1
        rw [List.getElem?_set_self hiσ] at e2
        cases e2
        exact ⟨u, r, .inr ⟨.inl hk, c, hc, hc'⟩⟩
      · rw [List.getElem?_set_ne (Ne.symm hj)] at e2
        obtain ⟨u', r', q⟩ := hl j y v' e1 e2 e3
        refine ⟨u', r', ?_⟩
        rcases q with q | ⟨k, c', e, z'⟩
        · exact .inl q
        · refine .inr ⟨k, c', e, z'.sameBut hs ?_⟩
          rintro rfl
          exact hj (nodup_ix hN e1 (I.ok.inj _ _ _ e hc ▸ hi))
    · by_cases hcc : c' = c
      · subst hcc; exact ⟨_, hc'⟩
      · obtain ⟨w2, z2⟩ := I.cell y c' e
        exact ⟨w2, z2.sameBut hs hcc⟩
    · obtain ⟨e, n, ne, nf, d⟩ := I.pin p hp
      refine ⟨(hs.2 p.1 ?_).trans e, n, ne, nf, d⟩
      intro q
      rw [q, hoc] at e
      have q' : oc = p.2 := Option.some.inj e
      exact d w' (by rw [← q']; exact hocd)
theorem store_ok {M : Model} {A : Around} {E : Value → Shared → Prop} {i : Nat} {x : Str} {v : V} {u : Value} {Q : Unit → Shared → Prop} (I : Inv X pins σ H s) (hN : X.N.Nodup) (hi : X.N[i]? = some x) (hx : Loc X.env.scope x) (r : RelV v u)
    (h : ∀ s', Inv X pins (σ.set i (some v)) H s' → Q () s') (hf : X.fn x = true ∨ X.env.scope.names.lookup x = some .local := by first | exact .inl rfl | exact .inr rfl | assumption) : wpAny M A (storeName X.env x u) Q E s :=
  store_ok2 I hN hi hx r (fun s' I' _ => h s' I') hf
/-- behind a call or a block, the state as it is -/
theorem Inv.call' {s' : Shared} {ch : List Addr} (I : Inv X pins σ H s) (ho : s'.os = s.os) (u : Un (frs X.stack) ch H H' s.heap s'.heap) (hok : HOk X.prog X.w H' s'.heap) (hg : AllBare s'.gens)
    (hch : ∀ b ∈ ch, (b ∈ X.ex ∨ X.s₀.heap.objs.size ≤ b) ∧ b ≠ X.env.locals ∧ (∀ x c, X.env.cells.lookup x = some c → c ≠ b) ∧ ∀ p ∈ X.pn ++ pins, p.1 ≠ b) : Inv X pins σ H' s' := by
  obtain ⟨h', g', d', t', o'⟩ := s'
  have e : o' = s.os := ho
  subst e
  exact I.call (g' := g') (t' := t') (d' := d') u hok hg hch
end

/-! ### the judgements -/
/-- an exception: its class, its own dict's address (where it has one), the abstract heap behind it -/
abbrev XK := Value → Option Addr → Hp → Prop
abbrev St := List (Option V)
abbrev VK := V → Hp → Prop
/-- an expression's reading; a test's; an argument list's -/
abbrev TE := St → Hp → VK → Prop
abbrev TT := St → Hp → (Bool → Hp → Prop) → Prop
abbrev TA := St → Hp → (List V → Hp → Prop) → Prop
/-- what is wanted behind a statement -/
structure Ends where
  nx : St → Hp → Prop
  rt : VK
  bk : St → Hp → Prop := fun _ _ => False
  ct : St → Hp → Prop := fun _ _ => False
abbrev TS := Ends → St → Hp → Prop

def EP (X : Cx) (pins : List (Addr × Obj)) (σ : St) (Q : VK) (u : Value) (s' : Shared) : Prop := ∃ v H', Inv X pins σ H' s' ∧ RelV v u ∧ Q v H'
def TP (X : Cx) (pins : List (Addr × Obj)) (σ : St) (Q : Bool → Hp → Prop) (b : Bool) (s' : Shared) : Prop := ∃ H', Inv X pins σ H' s' ∧ Q b H'
def AP (X : Cx) (pins : List (Addr × Obj)) (σ : St) (Q : List V → Hp → Prop) (us : List Value) (s' : Shared) : Prop := ∃ vs H', Inv X pins σ H' s' ∧ Vals vs us ∧ Q vs H'
def SP (X : Cx) (pins : List (Addr × Obj)) (D : Ends) (f : Flow) (s' : Shared) : Prop :=
  match f with
  | .next => ∃ σ' H', Inv X pins σ' H' s' ∧ D.nx σ' H'
  | .brk => ∃ σ' H', Inv X pins σ' H' s' ∧ D.bk σ' H'
  | .cont => ∃ σ' H', Inv X pins σ' H' s' ∧ D.ct σ' H'
  | .ret u => ∃ v σ' H', Inv X pins σ' H' s' ∧ RelV v u ∧ D.rt v H'

def PE (X : Cx) (e : Expr) (t : TE) : Prop :=
  ∀ (pins : List (Addr × Obj)) (s : Shared) (σ : St) (H : Hp) (Q : VK), Inv X pins σ H s → t σ H Q → wpAny (model X.prog X.w) X.A (eval e X.env) (EP X pins σ Q) X.xe s
def PT (X : Cx) (e : Expr) (t : TT) : Prop :=
  ∀ (pins : List (Addr × Obj)) (s : Shared) (σ : St) (H : Hp) (Q : Bool → Hp → Prop), Inv X pins σ H s → t σ H Q → wpAny (model X.prog X.w) X.A (isTrue e X.env (eval e X.env)) (TP X pins σ Q) X.xe s
/-- a test whatever its 'whole' is (and, or) -/
def PW (X : Cx) (e : Expr) (t : TT) : Prop :=
  ∀ (whole : Sem Value) (pins : List (Addr × Obj)) (s : Shared) (σ : St) (H : Hp) (Q : Bool → Hp → Prop), Inv X pins σ H s → t σ H Q → wpAny (model X.prog X.w) X.A (isTrue e X.env whole) (TP X pins σ Q) X.xe s
theorem PW.pt {X : Cx} {e : Expr} {t : TT} (h : PW X e t) : PT X e t := h _
/-- an argument list (no star), from the left -/
def PA (X : Cx) (es : List Expr) (t : TA) : Prop :=
  ∀ (pos : Pos) (pins : List (Addr × Obj)) (s : Shared) (σ : St) (H : Hp) (Q : List V → Hp → Prop), Inv X pins σ H s → t σ H Q → wpAny (model X.prog X.w) X.A (spliced (backTo pos (starEach es X.env))) (AP X pins σ Q) X.xe s
def PS (X : Cx) (st : Stmt) (t : TS) : Prop :=
  ∀ (pins : List (Addr × Obj)) (s : Shared) (σ : St) (H : Hp) (D : Ends), Inv X pins σ H s → t D σ H → wpAny (model X.prog X.w) X.A (exec st X.env) (SP X pins D) X.xe s
def PSs (X : Cx) (st : List Stmt) (t : TS) : Prop :=
  ∀ (pins : List (Addr × Obj)) (s : Shared) (σ : St) (H : Hp) (D : Ends), Inv X pins σ H s → t D σ H → wpAny (model X.prog X.w) X.A (execs st X.env) (SP X pins D) X.xe s
/-- weaken the end -/
theorem thn {α : Type} {t : Sem α} {Q Q' : α → Shared → Prop} {M : Model} {A : Around} {E : Value → Shared → Prop} {s : Shared} (h : wpAny M A t Q E s) (hQ : ∀ a s, Q a s → Q' a s) : wpAny M A t Q' E s := wpAny_mono h hQ fun _ _ x => x
end L2

namespace L2
open PySem PySem.Spec PyProof.Rows
section
variable {X : Cx}

/-- two expressions in a row -/
theorem bin {a b : Expr} {ta tb : TE} (ha : PE X a ta) (hb : PE X b tb) {pins : List (Addr × Obj)} {s : Shared} {σ : St} {H : Hp} {R : V → V → Hp → Prop} (I : Inv X pins σ H s) (h : ta σ H fun x H1 => tb σ H1 fun y H2 => R x y H2)
    {α : Type} {Q : α → Shared → Prop} {f : Value → Value → Sem α}
    (hf : ∀ v u s2 x y H2, Inv X pins σ H2 s2 → RelV x v → RelV y u → R x y H2 → wpAny (model X.prog X.w) X.A (f v u) Q X.xe s2) :
    wpAny (model X.prog X.w) X.A (eval a X.env) (fun v s₁ => wpAny (model X.prog X.w) X.A (eval b X.env) (fun u s₂ => wpAny (model X.prog X.w) X.A (f v u) Q X.xe s₂) X.xe s₁) X.xe s := by
  refine thn (ha pins s σ H _ I h) fun v s1 ⟨x, H1, I1, r1, q1⟩ => ?_
  refine thn (hb pins s1 σ H1 _ I1 q1) fun u s2 ⟨y, H2, I2, r2, q2⟩ => ?_
  exact hf v u s2 x y H2 I2 r1 r2 q2

/-! ### names and constants -/
def tVar (i : Nat) : TE := fun σ H Q => ∃ v, σ[i]? = some (some v) ∧ Q v H
def tC (v : V) : TE := fun _ H Q => Q v H
theorem pe_var {i : Nat} {x : Str} {pos : Pos} (hN : X.N[i]? = some x) (hv : Vis X.env.scope x) (hd : (x == ("__debug__" : Str)) = false := by decide) (hcd : (x == ("__classdict__" : Str)) = false := by decide) : PE X (.Name x pos) (tVar i) := by
  intro pins s σ H Q I h
  obtain ⟨v, e, h⟩ := h
  obtain ⟨m, hn, hl⟩ := I.loc
  obtain ⟨u, r, l⟩ := hl i x v hN e hv
  have fin : EP X pins σ Q u s := ⟨v, H, I, r, h⟩
  rcases l with ⟨hk, hm⟩ | ⟨hk, c, hc, hcell⟩
  · exact wpAny_Name (wpAny_loadName_local I.ok.kind hk hn hm fin) hd
  · rcases hk with hk | hk
    · exact wpAny_Name (wpAny_loadName_cell I.ok.kind hk hc hcell fin) hd
    · exact wpAny_Name (wpAny_loadName_free I.ok.kind hk hc hcell fin hcd) hd
theorem pe_int {i j pos} : PE X (.Constant (.int i) j pos) (tC (.int i)) := fun _ _ _ H _ I h => wpAny_Constant_int ⟨.int i, H, I.tok _, ⟨_, rfl⟩, h⟩
theorem pe_bl {b j pos} : PE X (.Constant (.bool b) j pos) (tC (.bl b)) := fun _ _ _ H _ I h => Constant_bool ⟨.bl b, H, I, rfl, h⟩
/-- a global name of the def -/
def Gl (X : Cx) (x : Str) : Prop := X.env.kindOf x = some .globalImplicit
theorem ld_glob {E : Value → Shared → Prop} {pins : List (Addr × Obj)} {s : Shared} {σ : St} {H : Hp} {x : Str} {u : Value} {pos : Pos} {Q : Value → Shared → Prop} (I : Inv X pins σ H s) (hg : Gl X x) (hm : X.mg x = some u) (h : Q u s)
    (hd : (x == ("__debug__" : Str)) = false := by decide) : wpAny (model X.prog X.w) X.A (eval (.Name x pos) X.env) Q E s :=
  Calls.Name_function_global I.ok.kind hg (Calls.loadGlobal_global (by rw [I.ok.glob]; exact I.mod.glob.keeps I.bk) hm h) hd
theorem ld_blt {E : Value → Shared → Prop} {pins : List (Addr × Obj)} {s : Shared} {σ : St} {H : Hp} {x : Str} {u : Value} {pos : Pos} {Q : Value → Shared → Prop} (I : Inv X pins σ H s) (hg : Gl X x) (hm : X.mg x = none) (hv : bootBuiltins x = some u) (h : Q u s)
    (hn : x ≠ "__name__" := by decide) (hd : (x == ("__debug__" : Str)) = false := by decide) : wpAny (model X.prog X.w) X.A (eval (.Name x pos) X.env) Q E s := by
  obtain ⟨mb, h1, h2⟩ := I.mod.blt
  exact Calls.Name_function_global I.ok.kind hg (Calls.loadGlobal_builtin (by rw [I.ok.glob]; exact I.mod.glob.keeps I.bk) hm (by rw [I.ok.blt]; exact h1.keeps I.bk) ((h2 x hn).trans hv) h) hd
/-- a module's constant, a class, a function, as a value -/
theorem pe_glob {x : Str} {v : V} {u : Value} {pos : Pos} (hg : Gl X x) (hm : X.mg x = some u) (r : RelV v u) (hd : (x == ("__debug__" : Str)) = false := by decide) : PE X (.Name x pos) (tC v) :=
  fun _ _ _ H _ I h => ld_glob I hg hm ⟨v, H, I, r, h⟩ hd
theorem pe_bltn {x : Str} {v : V} {u : Value} {pos : Pos} (hg : Gl X x) (hm : X.mg x = none) (hv : bootBuiltins x = some u) (r : RelV v u) (hn : x ≠ "__name__" := by decide) (hd : (x == ("__debug__" : Str)) = false := by decide) : PE X (.Name x pos) (tC v) :=
  fun _ _ _ H _ I h => ld_blt I hg hm hv ⟨v, H, I, r, h⟩ hn hd

/-! ### arithmetic -/
variable {a b : Expr} {ta tb : TE} {pos : Pos}
/-! ### comparisons -/
/-- a comparison as a value, as a test -/
def tB (t : TE) : TT := fun σ H Q => t σ H fun x H1 => ∃ c, x = .bl c ∧ Q c H1
/-- an expression whose value is a bool, as a test -/
theorem pt_val {e : Expr} {t : TE} (h : PE X e t) (he : ∀ whole, isTrue e X.env whole = (do let v ← whole; standAt e.pos; holding [v] (truthy v)) := by intro _; rfl) : PT X e (tB t) := by
  intro pins s σ H Q I hw
  refine isTrue_plain (thn (h pins s σ H _ I hw) fun v s1 ⟨x, H1, I1, r1, q1⟩ => ?_) (he _)
  obtain ⟨d, rfl, q⟩ := q1
  cases r1
  exact wpAny_truthy_bool ⟨H1, I1, q⟩

/-! ### and, or, not -/
variable {tA tB' : TT} {rest : List Expr}
def tAnd (t u : TT) : TT := fun σ H Q => t σ H fun c H1 => if c = true then u σ H1 Q else Q false H1
def tOr (t u : TT) : TT := fun σ H Q => t σ H fun c H1 => if c = true then Q true H1 else u σ H1 Q
def tNot (t : TT) : TT := fun σ H Q => t σ H fun c H1 => Q (!c) H1
theorem pw_and1 (ha : PT X a tA) : PW X (.BoolOp .And [a] pos) tA := by
  intro wh pins s σ H Q I h
  refine isTrue_and (thn (ha pins s σ H Q I h) fun c s1 e => ?_)
  cases c with
  | true => exact isTrue_and_nil e
  | false => exact e
theorem pw_or1 (ha : PT X a tA) : PW X (.BoolOp .Or [a] pos) tA := by
  intro wh pins s σ H Q I h
  refine isTrue_or (thn (ha pins s σ H Q I h) fun c s1 e => ?_)
  cases c with
  | false => exact isTrue_or_nil e
  | true => exact e
theorem pw_and (ha : PT X a tA) (hb : PW X (.BoolOp .And (b :: rest) pos) tB') : PW X (.BoolOp .And (a :: b :: rest) pos) (tAnd tA tB') := by
  intro wh pins s σ H Q I h
  refine isTrue_and (thn (ha pins s σ H _ I h) fun c s1 ⟨H1, I1, q1⟩ => ?_)
  cases c with
  | true => exact hb wh pins s1 σ H1 Q I1 q1
  | false => exact ⟨H1, I1, q1⟩
theorem pw_or (ha : PT X a tA) (hb : PW X (.BoolOp .Or (b :: rest) pos) tB') : PW X (.BoolOp .Or (a :: b :: rest) pos) (tOr tA tB') := by
  intro wh pins s σ H Q I h
  refine isTrue_or (thn (ha pins s σ H _ I h) fun c s1 ⟨H1, I1, q1⟩ => ?_)
  cases c with
  | true => exact ⟨H1, I1, q1⟩
  | false => exact hb wh pins s1 σ H1 Q I1 q1
theorem pt_not (ha : PT X a tA) : PT X (.UnaryOp .Not a pos) (tNot tA) := by
  intro pins s σ H Q I h
  exact isTrue_not (ha pins s σ H (fun c H1 => Q (!c) H1) I h)
/-- .. as values (bools) -/
def tAndV (ta tb : TE) : TE := fun σ H Q => ta σ H fun x H1 => ∃ c, x = .bl c ∧ if c = true then tb σ H1 Q else Q (.bl false) H1
def tNotV (ta : TE) : TE := fun σ H Q => ta σ H fun x H1 => ∃ c, x = .bl c ∧ Q (.bl (!c)) H1
theorem pe_one {op} {t : TE} (h : PE X a t) : PE X (.BoolOp op [a] pos) t := fun pins s σ H Q I hw => BoolOp_one (h pins s σ H Q I hw)
theorem pe_and (ha : PE X a ta) (hb : PE X (.BoolOp .And (b :: rest) pos) tb) : PE X (.BoolOp .And (a :: b :: rest) pos) (tAndV ta tb) := by
  intro pins s σ H Q I h
  refine BoolOp_and (thn (ha pins s σ H _ I h) fun v s1 ⟨x, H1, I1, r1, q1⟩ => ?_)
  obtain ⟨c, rfl, q1⟩ := q1
  cases r1
  refine wpAny_truthy_bool ?_
  cases c with
  | true => exact hb pins s1 σ H1 Q I1 q1
  | false => exact ⟨.bl false, H1, I1, rfl, q1⟩
theorem pe_not (ha : PE X a ta) : PE X (.UnaryOp .Not a pos) (tNotV ta) := by
  intro pins s σ H Q I h
  refine UnaryOp_ (thn (ha pins s σ H _ I h) fun v s1 ⟨x, H1, I1, r1, q1⟩ => ?_)
  obtain ⟨c, rfl, q1⟩ := q1
  cases r1
  exact not_of (wpAny_truthy_bool ⟨.bl (!c), H1, I1, rfl, q1⟩)
/-- a if t else b -/
def tIf (t : TT) (ta tb : TE) : TE := fun σ H Q => t σ H fun c H1 => if c = true then ta σ H1 Q else tb σ H1 Q
theorem pe_ifExp {c : Expr} (hc : PT X c tA) (ha : PE X a ta) (hb : PE X b tb) : PE X (.IfExp c a b pos) (tIf tA ta tb) := by
  intro pins s σ H Q I h
  refine wpAny_IfExp (thn (hc pins s σ H _ I h) fun d s1 ⟨H1, I1, q1⟩ => ?_)
  cases d with
  | true => exact ha pins s1 σ H1 Q I1 q1
  | false => exact hb pins s1 σ H1 Q I1 q1
end
end L2

namespace L2
open PySem PySem.Spec PyProof.Rows

/-! ### a list, a tuple that is read: tracked, frozen, or an object of the module -/
def SqL (K : PySem.W.Frag) (H : Hp) (a : Addr) (xs : List V) : Prop :=
  Rd H a (.lst xs) ∨
    ∃ (o : Obj) (its : Array Value) (n : Nat), K.lookup a = some o ∧ o.cls = .type "list" ∧ o.dict = none ∧ o.data = .seq its n ∧ its.size ≤ sizeLine ∧ Vals xs its.toList
def SqT (K : PySem.W.Frag) (H : Hp) (a : Addr) (xs : List V) : Prop :=
  Rd H a (.tup xs) ∨
    ∃ (o : Obj) (its : Array Value) (n : Nat), K.lookup a = some o ∧ o.cls = .type "tuple" ∧ o.data = .seq its n ∧ its.size ≤ sizeLine ∧ Vals xs its.toList
def absV : Value → Option V
  | .none => some .non
  | .bool b => some (.bl b)
  | .int i _ => some (.int i)
  | .str x _ => some (.str x)
  | .bytes b _ => some (.byt b)
  | .float b _ => some (.flt b)
  | .ref a => some (.ref a)
  | .type n => some (.ty n)
  | _ => none
theorem RelV.abs {x : V} {u : Value} (r : RelV x u) : absV u = some x := by
  cases x with
  | non => cases r; rfl
  | bl _ => cases r; rfl
  | int _ => obtain ⟨t, rfl⟩ := r; rfl
  | str _ => obtain ⟨t, rfl⟩ := r; rfl
  | byt _ => obtain ⟨t, rfl⟩ := r; rfl
  | flt _ => obtain ⟨t, rfl⟩ := r; rfl
  | ref _ => cases r; rfl
  | ty _ => cases r; rfl
theorem RelV.inj {x y : V} {u : Value} (r : RelV x u) (q : RelV y u) : x = y := Option.some.inj (r.abs.symm.trans q.abs)
theorem Vals.inj : ∀ {xs ys : List V} {us : List Value}, Vals xs us → Vals ys us → xs = ys
  | _, _, _, .nil, .nil => rfl
  | _, _, _, .cons r t, .cons r' t' => by rw [r.inj r', Vals.inj t t']
section
variable {X : Cx} {pins : List (Addr × Obj)} {σ : St} {H : Hp} {s : Shared} {a : Addr} {xs ys : List V}
theorem SqL.of {K : PySem.W.Frag} (h : H a = some (.lst xs)) : SqL K H a xs := .inl (.inl h)
theorem SqT.of {K : PySem.W.Frag} (h : H a = some (.tup xs)) : SqT K H a xs := .inl (.inl h)
theorem Inv.list (I : Inv X pins σ H s) (h : SqL X.K H a xs) : ∃ its : List Value, Vals xs its ∧ PlainL s.heap a its.toArray ∧ xs.length ≤ sizeLine := by
  rcases h with h | ⟨o, its, n, hk, hc, hd, hs, hz, r⟩
  · obtain ⟨z, its, n, r, e⟩ := h.ok I.hok
    exact ⟨its, r, ⟨_, n, e, rfl, rfl, rfl⟩, z⟩
  · refine ⟨its.toList, r, ⟨o, n, I.kIn a o hk, hc, hd, by simpa using hs⟩, ?_⟩
    have e := r.length
    simp only [Array.length_toList] at e
    omega
theorem Inv.tuple (I : Inv X pins σ H s) (h : SqT X.K H a xs) : ∃ its : List Value, Vals xs its ∧ IsTup s.heap a its.toArray ∧ xs.length ≤ sizeLine := by
  rcases h with h | ⟨o, its, n, hk, hc, hs, hz, r⟩
  · obtain ⟨z, its, r, p⟩ := h.ok I.hok
    exact ⟨its, r, p, z⟩
  · refine ⟨its.toList, r, ⟨o, I.kIn a o hk, hc, n, by simpa using hs⟩, ?_⟩
    have e := r.length
    simp only [Array.length_toList] at e
    omega
theorem Inv.list_inj (I : Inv X pins σ H s) (h : SqL X.K H a xs) (h' : SqL X.K H a ys) : xs = ys := by
  obtain ⟨its, r, ⟨o, n, e, _, _, d⟩, _⟩ := I.list h
  obtain ⟨its', r', ⟨o', n', e', _, _, d'⟩, _⟩ := I.list h'
  rw [e] at e'; cases e'
  rw [d] at d'
  injection d' with d1 _
  have : its = its' := by simpa using congrArg Array.toList d1
  subst this
  exact r.inj r'
theorem Inv.tuple_inj (I : Inv X pins σ H s) (h : SqT X.K H a xs) (h' : SqT X.K H a ys) : xs = ys := by
  obtain ⟨its, r, ⟨o, e, _, n, d⟩, _⟩ := I.tuple h
  obtain ⟨its', r', ⟨o', e', _, n', d'⟩, _⟩ := I.tuple h'
  rw [e] at e'; cases e'
  rw [d] at d'
  injection d' with d1 _
  have : its = its' := by simpa using congrArg Array.toList d1
  subst this
  exact r.inj r'
end

/-! ### another wish about exceptions -/
abbrev Cx.wish (X : Cx) (E : Value → Shared → Prop) : Cx := { X with xe := E }
/-- no exception leaves -/
abbrev Cx.nox (X : Cx) : Cx := X.wish fun _ _ => False
theorem Cx.Ok.wish {X : Cx} (ok : X.Ok) (E : Value → Shared → Prop) : (X.wish E).Ok :=
  ⟨ok.mod, ok.kind, ok.glob, ok.blt, ok.above, ok.inj, ok.has, ok.cab, ok.hd, ok.frames, ok.stk, ok.exf, ok.bs, ok.bsz, ok.noex, ok.exfs, ok.funs, ok.frf⟩
theorem Cx.Ok.unwish {X : Cx} {E : Value → Shared → Prop} (ok : (X.wish E).Ok) : X.Ok :=
  ⟨ok.mod, ok.kind, ok.glob, ok.blt, ok.above, ok.inj, ok.has, ok.cab, ok.hd, ok.frames, ok.stk, ok.exf, ok.bs, ok.bsz, ok.noex, ok.exfs, ok.funs, ok.frf⟩
section
variable {X : Cx} {pins : List (Addr × Obj)} {σ : St} {H : Hp} {s : Shared} {E : Value → Shared → Prop}
theorem Inv.wish (I : Inv X pins σ H s) (E : Value → Shared → Prop) : Inv (X.wish E) pins σ H s := ⟨I.ok.wish E, I.os, I.bare, I.base, I.loc, I.cell, I.free, I.freeC, I.pin, I.hok, I.len⟩
theorem Inv.unwish (I : Inv (X.wish E) pins σ H s) : Inv X pins σ H s := ⟨I.ok.unwish, I.os, I.bare, I.base, I.loc, I.cell, I.free, I.freeC, I.pin, I.hok, I.len⟩
theorem SP.unwish {D : Ends} {f : Flow} {s' : Shared} (h : SP (X.wish E) pins D f s') : SP X pins D f s' := by
  cases f with
  | next => obtain ⟨σ', H', I, q⟩ := h; exact ⟨σ', H', I.unwish, q⟩
  | brk => obtain ⟨σ', H', I, q⟩ := h; exact ⟨σ', H', I.unwish, q⟩
  | cont => obtain ⟨σ', H', I, q⟩ := h; exact ⟨σ', H', I.unwish, q⟩
  | ret u => obtain ⟨v, σ', H', I, r, q⟩ := h; exact ⟨v, σ', H', I.unwish, r, q⟩
theorem PE.nox {e : Expr} {t : TE} (h : PE X.nox e t) : PE X e t := fun pins s σ H Q I hw =>
  wpAny_mono (h pins s σ H Q (I.wish _) hw) (fun _ _ ⟨v, H', I', r, q⟩ => ⟨v, H', I'.unwish, r, q⟩) fun _ _ z => False.elim z
theorem PT.nox {e : Expr} {t : TT} (h : PT X.nox e t) : PT X e t := fun pins s σ H Q I hw =>
  wpAny_mono (h pins s σ H Q (I.wish _) hw) (fun _ _ ⟨H', I', q⟩ => ⟨H', I'.unwish, q⟩) fun _ _ z => False.elim z
theorem PSs.nox {st : List Stmt} {t : TS} (h : PSs X.nox st t) : PSs X st t := fun pins s σ H D I hw =>
  wpAny_mono (h pins s σ H D (I.wish _) hw) (fun _ _ q => q.unwish) fun _ _ z => False.elim z
end

/-! ### blocks and small statements -/
section
variable {X : Cx} {st : Stmt} {rest : List Stmt} {t u : TS} {e : Expr} {te : TE} {pos : Pos}
def tNext : TS := fun D σ H => D.nx σ H
def tSeq (t u : TS) : TS := fun D σ H => t { D with nx := u D } σ H
theorem pss_nil : PSs X [] tNext := fun _ _ σ H _ I h => wpAny_execs_nil ⟨σ, H, I, h⟩
theorem pss_cons (h1 : PS X st t) (h2 : PSs X rest u) : PSs X (st :: rest) (tSeq t u) := by
  intro pins s σ H D I h
  refine wpAny_execs_cons (thn (h1 pins s σ H { D with nx := u D } I h) fun f s1 q => ?_)
  cases f with
  | next =>
    obtain ⟨σ', H', I', q⟩ := q
    exact h2 pins s1 σ' H' D I' q
  | ret v => exact q
  | brk => exact q
  | cont => exact q
theorem pss_one (h1 : PS X st t) : PSs X [st] t := by
  intro pins s σ H D I h
  refine wpAny_execs_cons (thn (h1 pins s σ H D I h) fun f s1 q => ?_)
  cases f with
  | next => exact wpAny_execs_nil q
  | ret v => exact q
  | brk => exact q
  | cont => exact q
/-- in a def's body nothing is shown -/
theorem Inv.quiet {pins : List (Addr × Obj)} {σ : St} {H : Hp} {s : Shared} (I : Inv X pins σ H s) : interactive X.env = false := by simp [interactive, I.ok.kind]
/-- an expression whose value is dropped -/
def tDrop (te : TE) : TS := fun D σ H => te σ H fun _ H1 => D.nx σ H1
theorem ps_expr (he : PE X e te) (hs : swapsWith e none pos.line X.env = pure false := by rfl) : PS X (.Expr e pos) (tDrop te) := by
  intro pins s σ H D I h
  exact wpAny_Expr_any (thn (he pins s σ H _ I h) fun v s1 ⟨x, H1, I1, r1, q1⟩ => ⟨σ, H1, I1, q1⟩) I.quiet hs
def tRet (te : TE) : TS := fun D σ H => te σ H D.rt
theorem ps_ret (he : PE X e te) : PS X (.Return (some e) pos) (tRet te) := by
  intro pins s σ H D I h
  exact wpAny_Return_some (thn (he pins s σ H _ I h) fun v s1 ⟨x, H1, I1, r1, q1⟩ => ⟨x, σ, H1, I1, r1, q1⟩)
def tIfS (c : TT) (t u : TS) : TS := fun D σ H => c σ H fun b H1 => if b = true then t D σ H1 else u D σ H1
theorem ps_if {c : Expr} {a b : List Stmt} {tc : TT} (hc : PT X c tc) (ha : PSs X a t) (hb : PSs X b u) : PS X (.If c a b pos) (tIfS tc t u) := by
  intro pins s σ H D I h
  refine wpAny_If (thn (hc pins s σ H _ I h) fun d s1 ⟨H1, I1, q1⟩ => ?_)
  cases d with
  | true => exact ha pins s1 σ H1 D I1 q1
  | false => exact hb pins s1 σ H1 D I1 q1
/-- code that the proof never comes to -/
def tNever : TS := fun _ _ _ => False
theorem ps_never : PS X st tNever := fun _ _ _ _ _ _ h => h.elim
end

/-! ### targets -/
abbrev TG := V → St → Hp → (St → Hp → Prop) → Prop
abbrev TGs := List V → St → Hp → (St → Hp → Prop) → Prop
def PG (X : Cx) (target : Expr) (t : TG) : Prop :=
  ∀ (pins : List (Addr × Obj)) (s : Shared) (σ : St) (H : Hp) (v : V) (u : Value) (Q : St → Hp → Prop), Inv X pins σ H s → RelV v u → t v σ H Q →
    wpAny (model X.prog X.w) X.A (assign target X.env u) (fun _ s' => ∃ σ' H', Inv X pins σ' H' s' ∧ Q σ' H') X.xe s
/-- several targets, one after another -/
def PGs (X : Cx) (ts : List Expr) (t : TGs) : Prop :=
  ∀ (pins : List (Addr × Obj)) (s : Shared) (σ : St) (H : Hp) (vs : List V) (us : List Value) (Q : St → Hp → Prop), Inv X pins σ H s → Vals vs us → t vs σ H Q →
    wpAny (model X.prog X.w) X.A (assignInOrder ((assignEach ts X.env).map (·.2)) us) (fun _ s' => ∃ σ' H', Inv X pins σ' H' s' ∧ Q σ' H') X.xe s
/-- o[i] = v, by values -/
abbrev TSet := V → V → V → Hp → (Hp → Prop) → Prop
def PSet (X : Cx) (t : TSet) : Prop :=
  ∀ (pins : List (Addr × Obj)) (s : Shared) (σ : St) (H : Hp) (o i v : V) (ov iv u : Value) (Q : Hp → Prop), Inv X pins σ H s → RelV o ov → RelV i iv → RelV v u → t o i v H Q →
    wpAny (model X.prog X.w) X.A (setItem ov iv u) (fun _ s' => ∃ H', Inv X pins σ H' s' ∧ Q H') X.xe s
section
variable {X : Cx} {pos : Pos}
def gName (i : Nat) : TG := fun v σ H Q => Q (σ.set i (some v)) H
theorem pg_name {i : Nat} {x : Str} (hN : X.N.Nodup) (hi : X.N[i]? = some x) (hx : Loc X.env.scope x) (hf : X.fn x = true ∨ X.env.scope.names.lookup x = some .local := by first | exact .inl rfl | exact .inr rfl | assumption) : PG X (.Name x pos) (gName i) := by
  intro pins s σ H v u Q I r h
  exact wpAny_assign_Name (store_ok I hN hi hx r (fun s' I' => ⟨_, H, I', h⟩) hf)
def gNil : TGs := fun vs σ H Q => vs = [] ∧ Q σ H
def gCons (t : TG) (u : TGs) : TGs := fun vs σ H Q => ∃ v r, vs = v :: r ∧ t v σ H fun σ' H' => u r σ' H' Q
theorem pgs_nil : PGs X [] gNil := by
  intro pins s σ H vs us Q I r h
  obtain ⟨e, h⟩ := h
  subst e
  cases r
  exact assignInOrder_nil ⟨σ, H, I, h⟩
theorem pgs_cons {e : Expr} {es : List Expr} {t : TG} {u : TGs} (h1 : PG X e t) (h2 : PGs X es u)
    (hs : (assignEach (e :: es) X.env).map (·.2) = assign e X.env :: (assignEach es X.env).map (·.2) := by rfl) : PGs X (e :: es) (gCons t u) := by
  intro pins s σ H vs us Q I r h
  obtain ⟨v, vr, e1, h⟩ := h
  subst e1
  cases r with
  | cons r rr =>
    rw [hs]
    refine assignInOrder_cons (thn (h1 pins s σ H _ _ _ I r h) fun _ s1 ⟨σ1, H1, I1, q1⟩ => ?_)
    exact h2 pins s1 σ1 H1 _ _ Q I1 rr q1
/-- (a, b, ..) = a tuple of that length -/
def gTup (K : PySem.W.Frag) (n : Nat) (t : TGs) : TG := fun v σ H Q => ∃ a xs, v = .ref a ∧ SqT K H a xs ∧ xs.length = n ∧ t xs σ H Q
theorem pg_tup {es : List Expr} {k : Nat} {t : TGs} {n : Nat} (hc : X.calm = true) (h : PGs X es t)
    (hn : (assignEach es X.env).length = n := by rfl) (hst : (assignEach es X.env).findIdx? (·.1) = none := by rfl) : PG X (.Tuple es k pos) (gTup X.K n t) := by
  intro pins s σ H v u Q I r hw
  obtain ⟨a, xs, e1, hq, hl, hw⟩ := hw
  subst e1
  cases r
  obtain ⟨its, rv, ht, hz⟩ := I.tuple hq
  refine assign_Tuple_tuple (I.ok.hd hc) ht (by simp [hn, ← hl, rv.length]) hst fun h' hx => ?_
  have I1 : Inv X pins σ H { s with heap := h' } := I.kept (t' := s.toks) fun b o e => hx b o (Nat.ne_of_lt (Heap.lt_size e)) e
  exact h pins _ σ H xs _ Q I1 (by simpa using rv) hw
/-- o[i] = .. -/
def gSub (to ti : TE) (t : TSet) : TG := fun v σ H Q => to σ H fun o H1 => ti σ H1 fun i H2 => t o i v H2 fun H3 => Q σ H3
theorem pg_sub {o i : Expr} {to ti : TE} {t : TSet} (ho : PE X o to) (hi : PE X i ti) (hs : PSet X t)
    (ha : ∀ v, assign (.Subscript o i pos) X.env v = (do
      let ov ← holding [v] (eval o X.env)
      let iv ← holding [v, ov] (eval i X.env)
      standAt pos
      holding [v, ov, iv] (setItem ov iv v)
      release [v, ov, iv] []) := by intro _; rfl) : PG X (.Subscript o i pos) (gSub to ti t) := by
  intro pins s σ H v u Q I r h
  rw [ha]
  refine wpAny_bind (wpAny_holding (thn (ho pins s σ H _ I h) fun ov s1 ⟨x, H1, I1, r1, q1⟩ => ?_))
  refine wpAny_bind (wpAny_holding (thn (hi pins s1 σ H1 _ I1 q1) fun iv s2 ⟨y, H2, I2, r2, q2⟩ => ?_))
  refine wpAny_bind (wpAny_standAt (wpAny_bind (wpAny_holding (thn (hs pins s2 σ H2 x y v ov iv u _ I2 r1 r2 r q2) fun _ s3 ⟨H3, I3, q3⟩ => ?_))))
  exact wpAny_release ⟨σ, H3, I3, q3⟩
/-- target = value -/
def tAsg (te : TE) (g : TG) : TS := fun D σ H => te σ H fun x H1 => g x σ H1 D.nx
theorem ps_asg {tg e : Expr} {te : TE} {g : TG} (he : PE X e te) (hg : PG X tg g) (hs : swapsWithSole [tg] e pos.line X.env = pure false := by rfl) (hw : swappedStores [tg] e X.env = pure none := by rfl)
    (h1 : (assignEach [tg] X.env).map (·.2) = [assign tg X.env] := by rfl) : PS X (.Assign [tg] e pos) (tAsg te g) := by
  intro pins s σ H D I h
  refine wpAny_Assign_stores (thn (he pins s σ H _ I h) fun v s1 ⟨x, H1, I1, r1, q1⟩ => ?_) hs hw
  rw [h1]
  exact thn (hg pins s1 σ H1 x v _ I1 r1 q1) fun _ s2 q => q
/-- name = value -/
theorem ps_set {i : Nat} {x : Str} {e : Expr} {te : TE} {pos' : Pos} (hN : X.N.Nodup) (hi : X.N[i]? = some x) (hx : Loc X.env.scope x) (he : PE X e te) (hs : swapsWith e (some (.Name x pos')) pos.line X.env = pure false := by rfl) (hf : X.fn x = true ∨ X.env.scope.names.lookup x = some .local := by first | exact .inl rfl | exact .inr rfl | assumption) :
    PS X (.Assign [.Name x pos'] e pos) (tAsg te (gName i)) := by
  intro pins s σ H D I h
  refine wpAny_Assign_Name (thn (he pins s σ H _ I h) fun v s1 ⟨y, H1, I1, r1, q1⟩ => ?_) hs
  exact store_ok I1 hN hi hx r1 (fun s2 I2 => ⟨_, H1, I2, q1⟩) hf
end

/-! ### while -/
section
variable {X : Cx} {pos : Pos}
end

/-! ### what a loop or a comprehension walks -/
/-- at turn i: it yields x (the heap may grow), or it stops -/
structure It where
  go : Nat → Hp → Prop
  yld : Nat → Hp → V → Hp → Prop
  stop : Nat → Hp → Prop
/-- the iterator's own objects may turn: they are not the frame's, not pinned, younger than the entry (or a comprehension's own) -/
def FpOk (X : Cx) (pins : List (Addr × Obj)) (H : Hp) (b : Addr) : Prop :=
  H b = none ∧ b ≠ X.env.locals ∧ b ∉ X.fs ∧ (b ∈ X.ex ∨ X.s₀.heap.objs.size ≤ b) ∧ (∀ x c, X.env.cells.lookup x = some c → c ≠ b) ∧ ∀ p ∈ X.pn ++ pins, p.1 ≠ b
theorem Inv.fpOk {X : Cx} {pins : List (Addr × Obj)} {σ : St} {H H' : Hp} {s : Shared} {b : Addr} (I : Inv X pins σ H s) (hb : s.heap.objs.size ≤ b) (hn : H' b = none) : FpOk X pins H' b := by
  refine ⟨hn, Nat.ne_of_gt (Nat.lt_of_lt_of_le I.lt hb), I.nofs hb, .inr (Nat.le_trans I.sz hb), fun x c e z => ?_, fun p hp z => ?_⟩
  · obtain ⟨v, q⟩ := I.cell x c e
    exact absurd (Nat.lt_of_lt_of_le q.lt (by rw [z]; exact hb)) (Nat.lt_irrefl _)
  · exact absurd (Nat.lt_of_lt_of_le (Heap.lt_size (I.pin p hp).1) (by rw [z]; exact hb)) (Nat.lt_irrefl _)
structure Turn (P : Program) (w : World) (K : PySem.W.Frag) (tg : Expr) (J : It) (fp : List Addr) (it : Addr) (tn : Nat → Heap → Prop) : Prop where
  mem : it ∈ fp
  obj : ∀ i h, tn i h → ∀ b ∈ fp, ∃ o, h.get? b = some o ∧ ∀ v, o.data ≠ .cell v
  keep : ∀ i h h', tn i h → (∀ b ∈ fp, ∀ o, h.get? b = some o → h'.get? b = some o) → tn i h'
  item : ∀ (X : Cx), X.prog = P → X.w = w → X.K = K → X.calm = true → ∀ (i : Nat) (pins : List (Addr × Obj)) (s : Shared) (σ : St) (H : Hp) (E : Value → Shared → Prop), Inv X pins σ H s → (∀ b ∈ fp, FpOk X pins H b) → tn i s.heap → J.go i H →
    wpAny (model P w) X.A (pyNext (.ref it)) (fun r s1 => ∃ u, r = some u ∧
      wpAny (model P w) X.A (letOwnedTupleGo tg (.ref it) u) (fun _ s2 => ∃ x H', Inv X pins σ H' s2 ∧ RelV x u ∧ J.yld i H x H' ∧ tn (i + 1) s2.heap ∧ ∀ b ∈ fp, H' b = none) E s1) E s
  done : ∀ (X : Cx), X.prog = P → X.w = w → X.K = K → X.calm = true → ∀ (i : Nat) (pins : List (Addr × Obj)) (s : Shared) (σ : St) (H : Hp) (E : Value → Shared → Prop), Inv X pins σ H s → (∀ b ∈ fp, FpOk X pins H b) → tn i s.heap → J.stop i H →
    wpAny (model P w) X.A (pyNext (.ref it)) (fun r s1 => r = none ∧ Inv X pins σ H s1) E s
  self : ∀ (A : Around) (i : Nat) (s : Shared) (Q : Value → Shared → Prop) (E : Value → Shared → Prop), tn i s.heap → Q (.ref it) s → wpAny (model P w) A (pyIter (.ref it)) Q E s
abbrev TI := St → Hp → (It → Hp → Prop) → Prop
/-- an iterator has come -/
def PIE (X : Cx) (pins : List (Addr × Obj)) (σ : St) (tg : Expr) (R : It → Hp → Prop) (itv : Value) (s2 : Shared) : Prop :=
  ∃ (it : Addr) (fp : List Addr) (tn : Nat → Heap → Prop) (J : It) (H' : Hp), itv = .ref it ∧ Inv X pins σ H' s2 ∧ Turn X.prog X.w X.K tg J fp it tn ∧ tn 0 s2.heap ∧ (∀ b ∈ fp, FpOk X pins H' b) ∧ R J H'
def PI (X : Cx) (tg iter : Expr) (wi : TI) : Prop :=
  ∀ (pins : List (Addr × Obj)) (s : Shared) (σ : St) (H : Hp) (R : It → Hp → Prop), Inv X pins σ H s → wi σ H R →
    wpAny (model X.prog X.w) X.A (eval iter X.env) (fun v s1 => wpAny (model X.prog X.w) X.A (pyIter v) (PIE X pins σ tg R) X.xe s1) X.xe s

/-- the step ahead of the store is nothing for an iterator that keeps no tuple -/
theorem go_of {M : Model} {A : Around} {E : Value → Shared → Prop} {s : Shared} {tg : Expr} {it : Addr} {u : Value} {o : Obj} {n : String} {vs : Array Value} {Q : Unit → Shared → Prop} (ho : s.heap.get? it = some o) (hc : o.cls = .type n) (hd : o.data = .fields vs)
    (hn : ["enumerate", "zip", "dict_itemiterator", "dict_reverseitemiterator", "odict_iterator", "itertools.zip_longest", "itertools.pairwise"].contains n = false) (hQ : Q () s) : wpAny M A (letOwnedTupleGo tg (.ref it) u) Q E s := by
  unfold letOwnedTupleGo
  cases tg <;> first
    | exact wpAny_pure hQ
    | (cases u <;> first
        | exact wpAny_pure hQ
        | (refine wpAny_bind (wpAny_load ho ?_)
           rw [hc, hd]
           show wpAny M A (if (["enumerate", "zip", "dict_itemiterator", "dict_reverseitemiterator", "odict_iterator", "itertools.zip_longest", "itertools.pairwise"].contains n && vs[0]? == some (rawInt _)) = true then _ else _) Q E s
           rw [if_neg (by intro h; rw [hn, Bool.false_and] at h; cases h)]
           exact wpAny_pure hQ))

/-- the list at a, as it stands at each turn (a loop may append to it) -/
def Itl (K : PySem.W.Frag) (a : Addr) : It :=
  ⟨fun i H => ∃ xs x, SqL K H a xs ∧ xs[i]? = some x, fun i H x H' => H' = H ∧ ∀ xs, SqL K H a xs → xs[i]? = some x, fun i H => ∃ xs, SqL K H a xs ∧ xs.length ≤ i⟩
def Itt (K : PySem.W.Frag) (a : Addr) : It :=
  ⟨fun i H => ∃ xs x, SqT K H a xs ∧ xs[i]? = some x, fun i H x H' => H' = H ∧ ∀ xs, SqT K H a xs → xs[i]? = some x, fun i H => ∃ xs, SqT K H a xs ∧ xs.length ≤ i⟩
/-- lo, lo + 1, .. (n of them) -/
def Itr (lo : Int) (n : Nat) : It := ⟨fun i _ => i < n, fun i H x H' => H' = H ∧ x = .int (lo + i), fun i _ => n ≤ i⟩
theorem turn_list {P : Program} {w : World} {K : PySem.W.Frag} {tg : Expr} (a it : Addr) : Turn P w K tg (Itl K a) [it] it (fun i h => h.IsListIter it a i) where
  mem := by simp
  obj := fun i h st b hb => by
    have e : b = it := by simpa using hb
    subst e
    obtain ⟨o, e, c, d⟩ := st
    exact ⟨o, e, fun v z => by rw [d] at z; cases z⟩
  keep := fun i h h' st k => st.at fun o e => k it (by simp) o e
  item := by
    intro X hP hw hK hc i pins s σ H E I hf st hg
    subst hP hw hK
    obtain ⟨xs, x, hq, hx⟩ := hg
    obtain ⟨its, rv, p, hz⟩ := I.list hq
    obtain ⟨u, hu, ru⟩ := rv.get hx
    obtain ⟨f0, f1, f2, f3, f4, f5⟩ := hf it (by simp)
    refine wpAny_pyNext_list_item st p.isList (x := u) (by simpa using hu) fun h' st' sb => ?_
    have I1 : Inv X pins σ H { s with heap := h' } := I.turned (t' := s.toks) (fun b o hb e => (sb.2 b hb).trans e) f0 f1 f3 f4 f5
    obtain ⟨o, e, c, d⟩ := id st'
    exact ⟨u, rfl, go_of (s := { s with heap := h' }) e c d (by decide) ⟨x, H, I1, ru, ⟨rfl, fun ys hy => by rw [I.list_inj hy hq]; exact hx⟩, st', fun b hb => (hf b hb).1⟩⟩
  done := by
    intro X hP hw hK hc i pins s σ H E I hf st hg
    subst hP hw hK
    obtain ⟨xs, hq, hx⟩ := hg
    obtain ⟨its, rv, p, hz⟩ := I.list hq
    obtain ⟨f0, f1, f2, f3, f4, f5⟩ := hf it (by simp)
    have hl := rv.length
    exact wpAny_pyNext_list_end (I.ok.hd hc) st p.isList (by simp; omega) fun h' eb => ⟨rfl, I.turned (t' := s.toks) (fun b o hb e => eb b o hb e) f0 f1 f3 f4 f5⟩
  self := fun _ _ _ _ _ st h => wpAny_pyIter_listiter st h
theorem turn_tuple {P : Program} {w : World} {K : PySem.W.Frag} {tg : Expr} (a it : Addr) : Turn P w K tg (Itt K a) [it] it (fun i h => h.IsTupleIter it a i) where
  mem := by simp
  obj := fun i h st b hb => by
    have e : b = it := by simpa using hb
    subst e
    obtain ⟨o, e, c, d⟩ := st
    exact ⟨o, e, fun v z => by rw [d] at z; cases z⟩
  keep := fun i h h' st k => st.at fun o e => k it (by simp) o e
  item := by
    intro X hP hw hK hc i pins s σ H E I hf st hg
    subst hP hw hK
    obtain ⟨xs, x, hq, hx⟩ := hg
    obtain ⟨its, rv, p, hz⟩ := I.tuple hq
    obtain ⟨u, hu, ru⟩ := rv.get hx
    obtain ⟨f0, f1, f2, f3, f4, f5⟩ := hf it (by simp)
    refine wpAny_pyNext_tuple_item st (show s.heap.IsTuple a its.toArray from p) (x := u) (by simpa using hu) fun h' st' sb => ?_
    have I1 : Inv X pins σ H { s with heap := h' } := I.turned (t' := s.toks) (fun b o hb e => (sb.2 b hb).trans e) f0 f1 f3 f4 f5
    obtain ⟨o, e, c, d⟩ := id st'
    exact ⟨u, rfl, go_of (s := { s with heap := h' }) e c d (by decide) ⟨x, H, I1, ru, ⟨rfl, fun ys hy => by rw [I.tuple_inj hy hq]; exact hx⟩, st', fun b hb => (hf b hb).1⟩⟩
  done := by
    intro X hP hw hK hc i pins s σ H E I hf st hg
    subst hP hw hK
    obtain ⟨xs, hq, hx⟩ := hg
    obtain ⟨its, rv, p, hz⟩ := I.tuple hq
    obtain ⟨f0, f1, f2, f3, f4, f5⟩ := hf it (by simp)
    have hl := rv.length
    exact wpAny_pyNext_tuple_end (I.ok.hd hc) st (show s.heap.IsTuple a its.toArray from p) (by simp; omega) fun h' eb => ⟨rfl, I.turned (t' := s.toks) (fun b o hb e => eb b o hb e) f0 f1 f3 f4 f5⟩
  self := fun _ _ _ _ _ st h => wpAny_pyIter_tupleiter st h
theorem turn_range {P : Program} {w : World} {K : PySem.W.Frag} {tg : Expr} (it : Addr) (lo : Int) (n : Nat) : Turn P w K tg (Itr lo n) [it] it (fun i h => IsRangeIter h it (lo + (i : Nat) * 1) ((n : Int) - (i : Nat)) 1) where
  mem := by simp
  obj := fun i h st b hb => by
    have e : b = it := by simpa using hb
    subst e
    exact ⟨_, st, fun v z => by
      have z' : Data.fields _ = Data.cell v := z
      cases z'⟩
  keep := fun i h h' st k => k it (by simp) _ st
  item := by
    intro X hP hw hK hc i pins s σ H E I hf st hg
    subst hP hw hK
    obtain ⟨f0, f1, f2, f3, f4, f5⟩ := hf it (by simp)
    have W := Walks.range (prog := X.prog) (w := X.w) (I.ok.hd hc) it lo 1 n
    refine W.item i s _ _ hg st fun v h' tk hv st' kk => ?_
    obtain ⟨t, rfl⟩ := hv
    have I1 : Inv X pins σ H { s with heap := h', toks := tk } := I.turned (fun b o hb e => kk b o (by simpa using hb) e) f0 f1 f3 f4 f5
    refine ⟨_, rfl, go_of (s := { s with heap := h', toks := tk }) (n := "range_iterator") st' rfl rfl (by decide) ⟨.int (lo + i), H, I1, ⟨t, ?_⟩, ⟨rfl, rfl⟩, st', fun b hb => (hf b hb).1⟩⟩
    rw [Int.mul_one]
  done := by
    intro X hP hw hK hc i pins s σ H E I hf st hg
    subst hP hw hK
    obtain ⟨f0, f1, f2, f3, f4, f5⟩ := hf it (by simp)
    exact wpAny_pyNext_range_end (I.ok.hd hc) st (by have : n ≤ i := hg; omega) fun h' eb => ⟨rfl, I.turned (t' := s.toks) (fun b o hb e => eb b o hb e) f0 f1 f3 f4 f5⟩
  self := fun _ _ _ _ _ st h => wpAny_pyIter_rangeiter st h
end L2

namespace L2
open PySem PySem.Spec PyProof.Rows
section
variable {X : Cx} {tg : Expr}
def iList (K : PySem.W.Frag) (tl : TE) : TI := fun σ H R => tl σ H fun x H1 => ∃ a, x = .ref a ∧ (∃ xs, SqL K H1 a xs) ∧ R (Itl K a) H1
def iTup (K : PySem.W.Frag) (tl : TE) : TI := fun σ H R => tl σ H fun x H1 => ∃ a, x = .ref a ∧ (∃ xs, SqT K H1 a xs) ∧ R (Itt K a) H1
theorem pi_list {l : Expr} {tl : TE} (hl : PE X l tl) : PI X tg l (iList X.K tl) := by
  intro pins s σ H R I h
  refine thn (hl pins s σ H _ I h) fun v s1 ⟨x, H1, I1, r1, q1⟩ => ?_
  obtain ⟨a, e, ⟨xs, hq⟩, q⟩ := q1
  subst e
  cases r1
  obtain ⟨its, rv, p, hz⟩ := I1.list hq
  refine wpAny_pyIter_list p.isList ?_
  refine ⟨s1.heap.objs.size, [s1.heap.objs.size], _, _, H1, rfl, I1.kept (t' := s1.toks) fun b o e => Heap.get?_push_of_some _ e, turn_list a _, ⟨_, Heap.get?_push_size _ rfl, rfl, rfl⟩, fun b hb => ?_, q⟩
  have e : b = s1.heap.objs.size := by simpa using hb
  subst e
  exact I1.fpOk (Nat.le_refl _) (I1.hok.fresh (Nat.le_refl _))
theorem pi_tup {l : Expr} {tl : TE} (hl : PE X l tl) : PI X tg l (iTup X.K tl) := by
  intro pins s σ H R I h
  refine thn (hl pins s σ H _ I h) fun v s1 ⟨x, H1, I1, r1, q1⟩ => ?_
  obtain ⟨a, e, ⟨xs, hq⟩, q⟩ := q1
  subst e
  cases r1
  obtain ⟨its, rv, p, hz⟩ := I1.tuple hq
  refine wpAny_pyIter_tuple (show s1.heap.IsTuple a its.toArray from p) ?_
  refine ⟨s1.heap.objs.size, [s1.heap.objs.size], _, _, H1, rfl, I1.kept (t' := s1.toks) fun b o e => Heap.get?_push_of_some _ e, turn_tuple a _, ⟨_, Heap.get?_push_size _ rfl, rfl, rfl⟩, fun b hb => ?_, q⟩
  have e : b = s1.heap.objs.size := by simpa using hb
  subst e
  exact I1.fpOk (Nat.le_refl _) (I1.hok.fresh (Nat.le_refl _))
/-- a range object just made, walked -/
theorem range_it {pins : List (Addr × Obj)} {σ : St} {H : Hp} {s : Shared} {R : It → Hp → Prop} {E : Value → Shared → Prop} {lo hi : Int} {t u v : Tok} {tk : Nat} (I : Inv X pins σ H s) (h1 : -(2 ^ 62) ≤ lo) (h2 : lo < 2 ^ 62) (h3 : -(2 ^ 62) ≤ hi) (h4 : hi < 2 ^ 62)
    (q : R (Itr lo (hi - lo).toNat) H) : wpAny (model X.prog X.w) X.A (pyIter (.ref s.heap.objs.size)) (PIE X pins σ tg R) E { s with heap := s.heap.push { cls := .type "range", data := .fields #[.int lo t, .int hi u, .int 1 v] }, toks := tk } := by
  refine wpAny_pyIter_range (IsRange.new ..) (small_one h1 h2 h3 h4) ?_
  have I1 : Inv X pins σ H { s with heap := s.heap.push { cls := .type "range", data := .fields #[.int lo t, .int hi u, .int 1 v] }, toks := tk } := I.kept fun b o e => Heap.get?_push_of_some _ e
  refine ⟨(s.heap.push { cls := .type "range", data := .fields #[.int lo t, .int hi u, .int 1 v] }).objs.size, [(s.heap.push { cls := .type "range", data := .fields #[.int lo t, .int hi u, .int 1 v] }).objs.size], _, _, H, rfl,
    I1.kept (t' := tk) fun b o e => Heap.get?_push_of_some _ e, turn_range _ lo (hi - lo).toNat, ?_, fun b hb => ?_, q⟩
  · have e1 : lo + ((0 : Nat) : Int) * 1 = lo := by simp
    have e2 : (((hi - lo).toNat : Nat) : Int) - ((0 : Nat) : Int) = Builtin.Range.rangeSize lo hi 1 := by rw [rangeSize_one]; split <;> omega
    show IsRangeIter _ _ (lo + ((0 : Nat) : Int) * 1) ((((hi - lo).toNat : Nat) : Int) - ((0 : Nat) : Int)) 1
    rw [e1, e2]
    exact Heap.get?_push_size _ rfl
  · have e : b = (s.heap.push { cls := .type "range", data := .fields #[.int lo t, .int hi u, .int 1 v] }).objs.size := by simpa using hb
    subst e
    exact I1.fpOk (Nat.le_refl _) (I1.hok.fresh (Nat.le_refl _))
def iRng1 (ta : TA) : TI := fun σ H R => ta σ H fun vs H1 => ∃ j : Int, vs = [.int j] ∧ -(2 ^ 62) ≤ j ∧ j < 2 ^ 62 ∧ R (Itr 0 j.toNat) H1
theorem pi_range1 {a : Expr} {ta : TA} {p pos : Pos} (hg : Gl X "range") (hm : X.mg "range" = none) (ha : PA X [a] ta) (hs : starEach [a] X.env = [(false, eval a X.env)] := by rfl) : PI X tg (.Call (.Name "range" p) [a] [] pos) (iRng1 ta) := by
  intro pins s σ H R I h
  refine Call_ (ld_blt I hg hm boot_range (PyProof.Rows.callWith_type1 (thn (ha pos pins s σ H _ I h) fun us s1 ⟨vs, H1, I1, r1, q1⟩ => ?_) hs rfl))
  obtain ⟨j, e, q1, q2, q⟩ := q1
  subst e
  cases r1 with
  | cons r rr =>
    cases rr
    obtain ⟨t, rfl⟩ := r
    exact call_range_1 (range_it I1 (by omega) (by omega) q1 q2 (by simpa using q))
/-! ### for -/
/-- W: the invariant by the turn and a measure; N: what the body is to reach -/
def tFor (wi : TI) (g : TG) (tb : TS) : TS := fun D σ H => wi σ H fun J H1 => ∃ W : Nat → Nat → St → Hp → Prop, (∃ m, W 0 m σ H1) ∧ ∀ i m σ H, W i m σ H →
  (J.stop i H ∧ D.nx σ H) ∨ (J.go i H ∧ ∃ N : St → Hp → Prop, (∀ σ' H', N σ' H' → ∃ m', m' < m ∧ W (i + 1) m' σ' H') ∧ ∀ x H', J.yld i H x H' → g x σ H' fun σ2 H2 => tb { D with nx := N, ct := N, bk := D.nx } σ2 H2)
/-- the records at fp as they stand -/
def pinsAt (fp : List Addr) (h : Heap) : List (Addr × Obj) := fp.filterMap fun b => (h.get? b).map fun o => (b, o)
theorem mem_pinsAt {fp : List Addr} {h : Heap} {b : Addr} {o : Obj} (hb : b ∈ fp) (e : h.get? b = some o) : (b, o) ∈ pinsAt fp h := List.mem_filterMap.mpr ⟨b, hb, by rw [e]; rfl⟩
theorem of_pinsAt {fp : List Addr} {h : Heap} {p : Addr × Obj} (hp : p ∈ pinsAt fp h) : p.1 ∈ fp ∧ h.get? p.1 = some p.2 := by
  obtain ⟨b, hb, e⟩ := List.mem_filterMap.mp hp
  cases q : h.get? b with
  | none => rw [q] at e; cases e
  | some o =>
    rw [q] at e
    have e' : (b, o) = p := Option.some.inj e
    subst e'
    exact ⟨hb, q⟩
theorem Inv.pinned {pins : List (Addr × Obj)} {σ : St} {H : Hp} {s : Shared} {fp : List Addr} (I : Inv X pins σ H s) (hf : ∀ b ∈ fp, FpOk X pins H b) (ho : ∀ b ∈ fp, ∃ o, s.heap.get? b = some o ∧ ∀ v, o.data ≠ .cell v) : Inv X (pins ++ pinsAt fp s.heap) σ H s :=
  I.pins_of fun p hp => (List.mem_append.mp hp).elim (fun z => I.pin p (List.mem_append_right _ z)) fun z => by
    obtain ⟨hb, e⟩ := of_pinsAt z
    obtain ⟨f0, f1, f2, _⟩ := hf p.1 hb
    obtain ⟨o, e', d⟩ := ho p.1 hb
    rw [e] at e'; cases e'
    exact ⟨e, f0, f1, f2, d⟩
theorem Inv.unpinned {pins pl : List (Addr × Obj)} {σ : St} {H : Hp} {s : Shared} (I : Inv X (pins ++ pl) σ H s) : Inv X pins σ H s := I.pins_of fun p hp => I.pin p (List.mem_append_right _ (List.mem_append_left _ hp))
theorem ps_for {iter : Expr} {body : List Stmt} {wi : TI} {g : TG} {tb : TS} {pos : Pos} (hp : PassesOwn (model X.prog X.w) X.A X.env X.xe) (hc : X.calm = true) (hi : PI X tg iter wi) (hg : PG X tg g) (hb : PSs X body tb)
    (hs : ∀ x, foldedSetIterable iter X.env x = pure x := by intro _; rfl) : PS X (.For tg iter body [] pos) (tFor wi g tb) := by
  intro pins s σ H D I h
  refine wpAny_For (thn (hi pins s σ H _ I h) fun v s1 h1 => thn h1 fun itv s2 h2 => ?_) hs
  obtain ⟨it, fp, tn, J, H2, e, I2, T, st2, f2, W, ⟨m0, w0⟩, turn⟩ := h2
  subst e
  -- what stays true of the iterator's objects through the loop
  have stat : ∀ {H' : Hp}, (∀ b ∈ fp, H' b = none) → ∀ b ∈ fp, FpOk X pins H' b := fun hn b hb => ⟨hn b hb, (f2 b hb).2⟩
  refine codeAny_forLoop_any (fun n s' => ∃ i σ' H', Inv X pins σ' H' s' ∧ tn i s'.heap ∧ (∀ b ∈ fp, H' b = none) ∧ W i n σ' H') ?_ m0 ⟨0, σ, H2, I2, st2, fun b hb => (f2 b hb).1, w0⟩
  rintro n s3 ⟨i, σ3, H3, I3, st3, fr3, w3⟩
  rcases turn i n σ3 H3 w3 with ⟨stop, qn⟩ | ⟨go, N, hN, step⟩
  · refine wpAny_passesOwn hp (thn (T.done X rfl rfl rfl hc i pins s3 σ3 H3 X.xe I3 (stat fr3) st3 stop) fun r s4 ⟨hr, I4⟩ => ?_)
    subst hr
    exact wpAny_execs_nil ⟨σ3, H3, I4, qn⟩
  · refine wpAny_passesOwn hp (thn (T.item X rfl rfl rfl hc i pins s3 σ3 H3 X.xe I3 (stat fr3) st3 go) fun r s4 ⟨u, hr, h4⟩ => ?_)
    subst hr
    refine wpAny_passesOwn hp (thn h4 fun _ s5 ⟨x, H5, I5, r5, y5, st5, fr5⟩ => ?_)
    have I5' := I5.pinned (stat fr5) (T.obj _ _ st5)
    refine wpAny_passesOwn hp (thn (hg _ s5 σ3 H5 x u _ I5' r5 (step x H5 y5)) fun _ s6 ⟨σ6, H6, I6, q6⟩ => ?_)
    refine wpAny_passesOwn hp (thn (hb _ s6 σ6 H6 _ I6 q6) fun f s7 q7 => ?_)
    have again : ∀ {σ7 : St} {H7 : Hp}, Inv X (pins ++ pinsAt fp s5.heap) σ7 H7 s7 → N σ7 H7 → ∃ m, m < n ∧ ∃ i σ' H', Inv X pins σ' H' s7 ∧ tn i s7.heap ∧ (∀ b ∈ fp, H' b = none) ∧ W i m σ' H' := fun {σ7 H7} I7 n7 => by
      obtain ⟨m', hm, w7⟩ := hN σ7 H7 n7
      refine ⟨m', hm, i + 1, σ7, H7, I7.unpinned, T.keep _ _ _ st5 fun b hb o e => (I7.pin (b, o) (List.mem_append_right _ (List.mem_append_right _ (mem_pinsAt hb e)))).1, fun b hb => ?_, w7⟩
      obtain ⟨o, e, d⟩ := T.obj _ _ st5 b hb
      exact (I7.pin (b, o) (List.mem_append_right _ (List.mem_append_right _ (mem_pinsAt hb e)))).2.1
    cases f with
    | next => obtain ⟨σ7, H7, I7, n7⟩ := q7; exact again I7 n7
    | cont => obtain ⟨σ7, H7, I7, n7⟩ := q7; exact again I7 n7
    | brk => obtain ⟨σ7, H7, I7, q7⟩ := q7; exact ⟨σ7, H7, I7.unpinned, q7⟩
    | ret v => obtain ⟨x7, σ7, H7, I7, r7, q7⟩ := q7; exact ⟨x7, σ7, H7, I7.unpinned, r7, q7⟩
end

/-! ### the forms one uses -/
/-- over a list that the body leaves as it is -/
theorem for_list {K : PySem.W.Frag} {a : Addr} {xs : List V} {g : TG} {tb : TS} {D : Ends} {σ : St} {H : Hp} (Pv : Nat → St → Hp → Prop) (h0 : Pv 0 σ H) (hl : ∀ i σ H, i ≤ xs.length → Pv i σ H → SqL K H a xs)
    (hs : ∀ i x σ H, xs[i]? = some x → Pv i σ H → g x σ H fun σ2 H2 => tb { D with nx := Pv (i + 1), ct := Pv (i + 1), bk := D.nx } σ2 H2) (hd : ∀ σ H, Pv xs.length σ H → D.nx σ H) :
    ∃ W : Nat → Nat → St → Hp → Prop, (∃ m, W 0 m σ H) ∧ ∀ i m σ H, W i m σ H →
      ((Itl K a).stop i H ∧ D.nx σ H) ∨ ((Itl K a).go i H ∧ ∃ N : St → Hp → Prop, (∀ σ' H', N σ' H' → ∃ m', m' < m ∧ W (i + 1) m' σ' H') ∧ ∀ x H', (Itl K a).yld i H x H' → g x σ H' fun σ2 H2 => tb { D with nx := N, ct := N, bk := D.nx } σ2 H2) := by
  refine ⟨fun i m σ H => m = xs.length - i ∧ i ≤ xs.length ∧ Pv i σ H, ⟨xs.length, by simp, Nat.zero_le _, h0⟩, ?_⟩
  rintro i m σ H ⟨rfl, hi, p⟩
  have q := hl i σ H hi p
  by_cases hlt : i < xs.length
  · refine .inr ⟨⟨xs, xs[i], q, by simp [hlt]⟩, Pv (i + 1), fun σ' H' p' => ⟨xs.length - (i + 1), by omega, rfl, hlt, p'⟩, fun x H' y => ?_⟩
    obtain ⟨e, y⟩ := y
    subst e
    exact hs i x σ _ (y xs q) p
  · have e : i = xs.length := by omega
    subst e
    exact .inl ⟨⟨xs, q, Nat.le_refl _⟩, hd σ H p⟩
theorem for_tup {K : PySem.W.Frag} {a : Addr} {xs : List V} {g : TG} {tb : TS} {D : Ends} {σ : St} {H : Hp} (Pv : Nat → St → Hp → Prop) (h0 : Pv 0 σ H) (hl : ∀ i σ H, i ≤ xs.length → Pv i σ H → SqT K H a xs)
    (hs : ∀ i x σ H, xs[i]? = some x → Pv i σ H → g x σ H fun σ2 H2 => tb { D with nx := Pv (i + 1), ct := Pv (i + 1), bk := D.nx } σ2 H2) (hd : ∀ σ H, Pv xs.length σ H → D.nx σ H) :
    ∃ W : Nat → Nat → St → Hp → Prop, (∃ m, W 0 m σ H) ∧ ∀ i m σ H, W i m σ H →
      ((Itt K a).stop i H ∧ D.nx σ H) ∨ ((Itt K a).go i H ∧ ∃ N : St → Hp → Prop, (∀ σ' H', N σ' H' → ∃ m', m' < m ∧ W (i + 1) m' σ' H') ∧ ∀ x H', (Itt K a).yld i H x H' → g x σ H' fun σ2 H2 => tb { D with nx := N, ct := N, bk := D.nx } σ2 H2) := by
  refine ⟨fun i m σ H => m = xs.length - i ∧ i ≤ xs.length ∧ Pv i σ H, ⟨xs.length, by simp, Nat.zero_le _, h0⟩, ?_⟩
  rintro i m σ H ⟨rfl, hi, p⟩
  have q := hl i σ H hi p
  by_cases hlt : i < xs.length
  · refine .inr ⟨⟨xs, xs[i], q, by simp [hlt]⟩, Pv (i + 1), fun σ' H' p' => ⟨xs.length - (i + 1), by omega, rfl, hlt, p'⟩, fun x H' y => ?_⟩
    obtain ⟨e, y⟩ := y
    subst e
    exact hs i x σ _ (y xs q) p
  · have e : i = xs.length := by omega
    subst e
    exact .inl ⟨⟨xs, q, Nat.le_refl _⟩, hd σ H p⟩
theorem for_range {lo : Int} {n : Nat} {g : TG} {tb : TS} {D : Ends} {σ : St} {H : Hp} (Pv : Nat → St → Hp → Prop) (h0 : Pv 0 σ H)
    (hs : ∀ i σ H, i < n → Pv i σ H → g (.int (lo + i)) σ H fun σ2 H2 => tb { D with nx := Pv (i + 1), ct := Pv (i + 1), bk := D.nx } σ2 H2) (hd : ∀ σ H, Pv n σ H → D.nx σ H) :
    ∃ W : Nat → Nat → St → Hp → Prop, (∃ m, W 0 m σ H) ∧ ∀ i m σ H, W i m σ H →
      ((Itr lo n).stop i H ∧ D.nx σ H) ∨ ((Itr lo n).go i H ∧ ∃ N : St → Hp → Prop, (∀ σ' H', N σ' H' → ∃ m', m' < m ∧ W (i + 1) m' σ' H') ∧ ∀ x H', (Itr lo n).yld i H x H' → g x σ H' fun σ2 H2 => tb { D with nx := N, ct := N, bk := D.nx } σ2 H2) := by
  refine ⟨fun i m σ H => m = n - i ∧ i ≤ n ∧ Pv i σ H, ⟨n, by simp, Nat.zero_le _, h0⟩, ?_⟩
  rintro i m σ H ⟨rfl, hi, p⟩
  by_cases hlt : i < n
  · refine .inr ⟨hlt, Pv (i + 1), fun σ' H' p' => ⟨n - (i + 1), by omega, rfl, hlt, p'⟩, fun x H' y => ?_⟩
    obtain ⟨e, y⟩ := y
    subst e y
    exact hs i σ _ hlt p
  · have e : i = n := by omega
    subst e
    exact .inl ⟨Nat.le_refl _, hd σ H p⟩
end L2

namespace L2
open PySem PySem.Spec PyProof.Rows

abbrev R2 := V → V → Hp → VK → Prop
/-- a two-place operation on values: f is binaryOp op, inplaceOp op or compareOp op -/
def OpR (X : Cx) (f : Value → Value → Sem Value) (r : R2) : Prop :=
  ∀ (pins : List (Addr × Obj)) (s : Shared) (σ : St) (H : Hp) (x y : V) (v u : Value) (Q : VK), Inv X pins σ H s → RelV x v → RelV y u → r x y H Q →
    wpAny (model X.prog X.w) X.A (f v u) (EP X pins σ Q) X.xe s
/-- a call of a value that is known (a builtin, a type) with values -/
def CallR (X : Cx) (f : Value) (r : List V → Hp → VK → Prop) : Prop :=
  ∀ (pins : List (Addr × Obj)) (s : Shared) (σ : St) (H : Hp) (xs : List V) (us : List Value) (Q : VK), Inv X pins σ H s → Vals xs us → r xs H Q →
    wpAny (model X.prog X.w) X.A (call f us) (EP X pins σ Q) X.xe s
/-- a value's truth -/
def TruR (X : Cx) (r : V → Hp → (Bool → Hp → Prop) → Prop) : Prop :=
  ∀ (pins : List (Addr × Obj)) (s : Shared) (σ : St) (H : Hp) (x : V) (v : Value) (Q : Bool → Hp → Prop), Inv X pins σ H s → RelV x v → r x H Q →
    wpAny (model X.prog X.w) X.A (truthy v) (TP X pins σ Q) X.xe s

def tOp (r : R2) (ta tb : TE) : TE := fun σ H Q => ta σ H fun x H1 => tb σ H1 fun y H2 => r x y H2 Q
/-- ints in, under C, and a value out -/
def rI (C : Int → Int → Prop) (g : Int → Int → V) : R2 := fun x y H Q => ∃ i j, x = .int i ∧ y = .int j ∧ C i j ∧ Q (g i j) H
def rI0 (g : Int → Int → V) : R2 := fun x y H Q => ∃ i j, x = .int i ∧ y = .int j ∧ Q (g i j) H
section
variable {X : Cx} {a b c : Expr} {ta tb tc : TE} {pos : Pos}

theorem binT (ha : PE X a ta) (hb : PE X b tb) {pins : List (Addr × Obj)} {s : Shared} {σ : St} {H : Hp} {R : V → V → Hp → Prop} (I : Inv X pins σ H s)
    (h : ta σ H fun x H1 => tb σ H1 fun y H2 => R x y H2) {Q : Value → Shared → Prop} {f : Value → Value → Sem Value}
    (hf : ∀ v u s2 x y H2, Inv X pins σ H2 s2 → RelV x v → RelV y u → R x y H2 → wpAny (model X.prog X.w) X.A (f v u) Q X.xe s2) :
    wpAny (model X.prog X.w) X.A (eval a X.env) (fun v s₁ => wpAny (model X.prog X.w) X.A (eval b X.env) (fun u s₂ => wpAny (model X.prog X.w) X.A (f v u) Q X.xe s₂) X.xe s₁) X.xe s := by
  refine thn (ha pins s σ H _ I h) fun v s1 ⟨x, H1, I1, r1, q1⟩ => ?_
  refine thn (hb pins s1 σ H1 _ I1 q1) fun u s2 ⟨y, H2, I2, r2, q2⟩ => ?_
  exact hf v u s2 x y H2 I2 r1 r2 q2

theorem pe_op {op : Operator} {r : R2} (ho : OpR X (binaryOp op) r) (ha : PE X a ta) (hb : PE X b tb) : PE X (.BinOp a op b pos) (tOp r ta tb) := by
  intro pins s σ H Q I h
  exact wpAny_BinOp (binT ha hb I h fun v u s2 x y H2 I2 rx ry q => ho pins s2 σ H2 x y v u Q I2 rx ry q)
/-! ### ints -/
theorem opI {f : Value → Value → Sem Value} {C : Int → Int → Prop} {g : Int → Int → Int}
    (rule : ∀ (i j : Int) (t u : Tok) (s : Shared) (Q : Value → Shared → Prop) (E : Value → Shared → Prop), C i j → Q (.int (g i j) s.toks) { s with toks := s.toks + 1 } → wpAny (model X.prog X.w) X.A (f (.int i t) (.int j u)) Q E s) :
    OpR X f (rI C fun i j => .int (g i j)) := by
  intro pins s σ H x y v u Q I rx ry h
  obtain ⟨i, j, rfl, rfl, hc, q⟩ := h
  obtain ⟨t, rfl⟩ := rx
  obtain ⟨t', rfl⟩ := ry
  exact rule i j t t' s _ _ hc ⟨.int (g i j), H, I.tok _, ⟨_, rfl⟩, q⟩
theorem opI0 {f : Value → Value → Sem Value} {g : Int → Int → Int}
    (rule : ∀ (i j : Int) (t u : Tok) (s : Shared) (Q : Value → Shared → Prop) (E : Value → Shared → Prop), Q (.int (g i j) s.toks) { s with toks := s.toks + 1 } → wpAny (model X.prog X.w) X.A (f (.int i t) (.int j u)) Q E s) :
    OpR X f (rI0 fun i j => .int (g i j)) := by
  intro pins s σ H x y v u Q I rx ry h
  obtain ⟨i, j, rfl, rfl, q⟩ := h
  obtain ⟨t, rfl⟩ := rx
  obtain ⟨t', rfl⟩ := ry
  exact rule i j t t' s _ _ ⟨.int (g i j), H, I.tok _, ⟨_, rfl⟩, q⟩
theorem opB0 {f : Value → Value → Sem Value} {g : Int → Int → Bool}
    (rule : ∀ (i j : Int) (t u : Tok) (s : Shared) (Q : Value → Shared → Prop) (E : Value → Shared → Prop), Q (.bool (g i j)) s → wpAny (model X.prog X.w) X.A (f (.int i t) (.int j u)) Q E s) :
    OpR X f (rI0 fun i j => .bl (g i j)) := by
  intro pins s σ H x y v u Q I rx ry h
  obtain ⟨i, j, rfl, rfl, q⟩ := h
  obtain ⟨t, rfl⟩ := rx
  obtain ⟨t', rfl⟩ := ry
  exact rule i j t t' s _ _ ⟨.bl (g i j), H, I, rfl, q⟩

def CDiv (i j : Int) : Prop := 0 < j ∧ j < 1073741824
def CPow (i j : Int) : Prop := 0 ≤ j ∧ j ≤ 1000000 ∧ i.natAbs < 2 ^ 64
def CMul (i j : Int) : Prop := (-(2 ^ 64) < i ∧ i < 2 ^ 64) ∨ (-(2 ^ 64) < j ∧ j < 2 ^ 64)
theorem CMul.ok {i j : Int} (h : CMul i j) : IntMulOk i j := by
  rcases h with ⟨h1, h2⟩ | ⟨h1, h2⟩
  · exact .of_left (intBits_le_64 h1 h2)
  · exact .of_right (intBits_le_64 h1 h2)
theorem op_add : OpR X (binaryOp .Add) (rI0 fun i j => .int (i + j)) := opI0 fun _ _ _ _ _ _ _ q => add_int q
theorem op_sub : OpR X (binaryOp .Sub) (rI0 fun i j => .int (i - j)) := opI0 fun _ _ _ _ _ _ _ q => sub_int q
theorem op_mul : OpR X (binaryOp .Mult) (rI CMul fun i j => .int (i * j)) := opI fun _ _ _ _ _ _ _ hc q => mul_int q hc.ok
/-- // by a positive divisor -/
theorem op_fdiv : OpR X (binaryOp .FloorDiv) (rI CDiv fun i j => .int (i / j)) := opI fun i j _ _ _ _ _ hc q => by
  have h1 : (0 : Int) < j := hc.1
  have h2 : j < 1073741824 := hc.2
  exact floordiv_int (by omega) (by rw [Int.fdiv_eq_ediv_of_nonneg i (by omega)]; exact q) (.inl (PyProof.noPylong_small (by omega)))
/-- % by a positive divisor of any size -/
theorem op_mod : OpR X (binaryOp .Mod) (rI (fun _ j => 0 < j) fun i j => .int (i % j)) := opI fun i j _ _ _ _ _ hc q => by
  have h1 : (0 : Int) < j := hc
  exact mod_int' (by omega) (by rw [Int.fmod_eq_emod_of_nonneg i (by omega)]; exact q)
theorem op_pow : OpR X (binaryOp .Pow) (rI CPow fun i j => .int (i ^ j.toNat)) := opI fun _ _ _ _ _ _ _ hc q => pow_int_small hc.1 hc.2.1 hc.2.2 q
/-! ### bools among ints: n += (a < b) -/
end

/-! ### comparisons -/
/-- the scalars that == tells apart as data does -/
def scal : V → V → Bool
  | .non, .non => true | .non, .int _ => true | .int _, .non => true | .non, .bl _ => true | .bl _, .non => true | .non, .str _ => true | .str _, .non => true
  | .int _, .int _ => true | .bl _, .bl _ => true | .str _, .str _ => true | .byt _, .byt _ => true
  | .int _, .str _ => true | .str _, .int _ => true | .bl _, .str _ => true | .str _, .bl _ => true
  | _, _ => false
def rEq : R2 := fun x y H Q => scal x y = true ∧ Q (.bl (decide (x = y))) H
def rNe : R2 := fun x y H Q => scal x y = true ∧ Q (.bl (!decide (x = y))) H

theorem dec_int {i j : Int} : decide (V.int i = V.int j) = (i == j) := by
  rw [Bool.eq_iff_iff]
  simp
theorem dec_bl {i j : Bool} : decide (V.bl i = V.bl j) = (i == j) := by
  rw [Bool.eq_iff_iff]
  simp
theorem dec_str {i j : Str} : decide (V.str i = V.str j) = (i == j) := by
  rw [Bool.eq_iff_iff]
  simp
theorem dec_byt {i j : Array UInt8} : decide (V.byt i = V.byt j) = (i.toList == j.toList) := by
  rw [Bool.eq_iff_iff]
  cases i
  cases j
  simp

section
variable {X : Cx} {a b c : Expr} {ta tb tc : TE} {pos : Pos}
theorem fin_bl {pins : List (Addr × Obj)} {σ : St} {H : Hp} {s : Shared} {Q : VK} {k k' : Bool} (I : Inv X pins σ H s) (q : Q (.bl k) H) (e : k = k') : EP X pins σ Q (.bool k') s := by
  subst e
  exact ⟨.bl k, H, I, rfl, q⟩
theorem op_eq : OpR X (compareOp .Eq) rEq := by
  intro pins s σ H x y v u Q I rx ry h
  obtain ⟨hs, q⟩ := h
  cases x with
  | non =>
    cases rx
    cases y with
    | non => cases ry; exact PySem.EqNone.eq_none_none (fin_bl I q (by simp))
    | bl j => cases ry; exact PySem.EqNone.eq_none_bool (fin_bl I q (by simp))
    | int j => obtain ⟨t', rfl⟩ := ry; exact PySem.EqNone.eq_none_int (fin_bl I q (by simp))
    | str j => obtain ⟨t', rfl⟩ := ry; exact PySem.EqNone.eq_none_str (fin_bl I q (by simp))
    | _ => exact absurd (show false = true from hs) Bool.false_ne_true
  | bl i =>
    cases rx
    cases y with
    | non => cases ry; exact PySem.EqNone.eq_bool_none (fin_bl I q (by simp))
    | bl j => cases ry; exact eq_bool (fin_bl I q dec_bl)
    | str j => obtain ⟨t', rfl⟩ := ry; exact PySem.EqMixed.eq_bool_str (fin_bl I q (by simp))
    | _ => exact absurd (show false = true from hs) Bool.false_ne_true
  | int i =>
    obtain ⟨t, rfl⟩ := rx
    cases y with
    | non => cases ry; exact PySem.EqNone.eq_int_none (fin_bl I q (by simp))
    | int j => obtain ⟨t', rfl⟩ := ry; exact eq_int (fin_bl I q dec_int)
    | str j => obtain ⟨t', rfl⟩ := ry; exact PySem.EqMixed.eq_int_str (fin_bl I q (by simp))
    | _ => exact absurd (show false = true from hs) Bool.false_ne_true
  | str i =>
    obtain ⟨t, rfl⟩ := rx
    cases y with
    | non => cases ry; exact PySem.EqNone.eq_str_none (fin_bl I q (by simp))
    | bl j => cases ry; exact PySem.EqMixed.eq_str_bool (fin_bl I q (by simp))
    | int j => obtain ⟨t', rfl⟩ := ry; exact PySem.EqMixed.eq_str_int (fin_bl I q (by simp))
    | str j => obtain ⟨t', rfl⟩ := ry; exact eq_str (fin_bl I q dec_str)
    | _ => exact absurd (show false = true from hs) Bool.false_ne_true
  | byt i =>
    obtain ⟨t, rfl⟩ := rx
    cases y with
    | byt j => obtain ⟨t', rfl⟩ := ry; exact PySem.W.eq_bytes (fin_bl I q dec_byt)
    | _ => exact absurd (show false = true from hs) Bool.false_ne_true
  | _ => cases y <;> exact absurd (show false = true from hs) Bool.false_ne_true
theorem op_ne : OpR X (compareOp .NotEq) rNe := by
  intro pins s σ H x y v u Q I rx ry h
  obtain ⟨hs, q⟩ := h
  cases x with
  | non =>
    cases rx
    cases y with
    | non => cases ry; exact PySem.EqNone.ne_none_none (fin_bl I q (by simp))
    | bl j => cases ry; exact PySem.EqNone.ne_none_bool (fin_bl I q (by simp))
    | int j => obtain ⟨t', rfl⟩ := ry; exact PySem.EqNone.ne_none_int (fin_bl I q (by simp))
    | str j => obtain ⟨t', rfl⟩ := ry; exact PySem.EqNone.ne_none_str (fin_bl I q (by simp))
    | _ => exact absurd (show false = true from hs) Bool.false_ne_true
  | bl i =>
    cases rx
    cases y with
    | non => cases ry; exact PySem.EqNone.ne_bool_none (fin_bl I q (by simp))
    | bl j => cases ry; exact ne_bool (fin_bl I q (congrArg not dec_bl))
    | str j => obtain ⟨t', rfl⟩ := ry; exact PySem.EqMixed.ne_bool_str (fin_bl I q (by simp))
    | _ => exact absurd (show false = true from hs) Bool.false_ne_true
  | int i =>
    obtain ⟨t, rfl⟩ := rx
    cases y with
    | non => cases ry; exact PySem.EqNone.ne_int_none (fin_bl I q (by simp))
    | int j => obtain ⟨t', rfl⟩ := ry; exact ne_int (fin_bl I q (congrArg not dec_int))
    | str j => obtain ⟨t', rfl⟩ := ry; exact PySem.EqMixed.ne_int_str (fin_bl I q (by simp))
    | _ => exact absurd (show false = true from hs) Bool.false_ne_true
  | str i =>
    obtain ⟨t, rfl⟩ := rx
    cases y with
    | non => cases ry; exact PySem.EqNone.ne_str_none (fin_bl I q (by simp))
    | bl j => cases ry; exact PySem.EqMixed.ne_str_bool (fin_bl I q (by simp))
    | int j => obtain ⟨t', rfl⟩ := ry; exact PySem.EqMixed.ne_str_int (fin_bl I q (by simp))
    | str j => obtain ⟨t', rfl⟩ := ry; exact ne_str (fin_bl I q (congrArg not dec_str))
    | _ => exact absurd (show false = true from hs) Bool.false_ne_true
  | byt i =>
    obtain ⟨t, rfl⟩ := rx
    cases y with
    | byt j => obtain ⟨t', rfl⟩ := ry; exact PySem.W.ne_bytes (fin_bl I q (congrArg not dec_byt))
    | _ => exact absurd (show false = true from hs) Bool.false_ne_true
  | _ => cases y <;> exact absurd (show false = true from hs) Bool.false_ne_true

theorem op_lt : OpR X (compareOp .Lt) (rI0 fun i j => .bl (decide (i < j))) := opB0 fun _ _ _ _ _ _ _ q => lt_int q
theorem op_le : OpR X (compareOp .LtE) (rI0 fun i j => .bl (decide (i ≤ j))) := opB0 fun _ _ _ _ _ _ _ q => le_int q
theorem op_gt : OpR X (compareOp .Gt) (rI0 fun i j => .bl (decide (j < i))) := opB0 fun _ _ _ _ _ _ _ q => gt_int q
theorem op_ge : OpR X (compareOp .GtE) (rI0 fun i j => .bl (decide (j ≤ i))) := opB0 fun _ _ _ _ _ _ _ q => ge_int q
/-- two rules for one operation: by cases -/
theorem OpR.or {f : Value → Value → Sem Value} {r r' : R2} (h : OpR X f r) (h' : OpR X f r') : OpR X f (fun x y H Q => r x y H Q ∨ r' x y H Q) := by
  intro pins s σ H x y v u Q I rx ry q
  rcases q with q | q
  · exact h pins s σ H x y v u Q I rx ry q
  · exact h' pins s σ H x y v u Q I rx ry q

theorem nomark (b : Expr) {op : CmpOp} (h : op ≠ .In := by decide) (h2 : op ≠ .NotIn := by decide) : behindInMarks op b = false := by
  have e1 : (op == CmpOp.In) = false := by cases op <;> first | rfl | exact absurd rfl h
  have e2 : (op == CmpOp.NotIn) = false := by cases op <;> first | rfl | exact absurd rfl h2
  cases b <;> simp [behindInMarks, e1, e2]
/-- a comparison as a value; hm: nomark b, or (for in, not in) by with_unfolding_all rfl -/
theorem pe_cmpR {op : CmpOp} {r : R2} (ho : OpR X (compareOp op) r) (ha : PE X a ta) (hb : PE X b tb) (hm : behindInMarks op b = false) : PE X (.Compare a [op] [b] pos) (tOp r ta tb) := by
  intro pins s σ H Q I h
  exact wpAny_Compare1 (binT ha hb I h fun v u s2 x y H2 I2 rx ry q => ho pins s2 σ H2 x y v u Q I2 rx ry q) hm
/-- a reading of a value as a test -/
def tTest (t : TE) : TT := fun σ H Q => t σ H fun x H' => ∃ k, x = .bl k ∧ Q k H'
theorem pt_cmpR {op : CmpOp} {r : R2} (ho : OpR X (compareOp op) r) (ha : PE X a ta) (hb : PE X b tb) (hm : behindInMarks op b = false) : PT X (.Compare a [op] [b] pos) (tTest (tOp r ta tb)) := by
  intro pins s σ H Q I h
  refine wpAny_isTrue_Compare1 (thn (ha pins s σ H _ I h) fun v s1 ⟨x, H1, I1, r1, q1⟩ => thn (hb pins s1 σ H1 _ I1 q1) fun u s2 ⟨y, H2, I2, r2, q2⟩ =>
    thn (ho pins s2 σ H2 x y v u _ I2 r1 r2 q2) fun c s3 ⟨z, H3, I3, r3, k, e, q3⟩ => ?_) hm
  subst e
  cases r3
  exact wpAny_truthy_bool ⟨H3, I3, q3⟩
/-- a op1 b op2 c -/
def tChain (r r' : R2) (ta tb tc : TE) : TE := fun σ H Q => ta σ H fun x H1 => tb σ H1 fun y H2 => r x y H2 fun z H3 => ∃ k, z = .bl k ∧
  (if k = true then tc σ H3 fun w' H4 => r' y w' H4 Q else Q (.bl false) H3)
theorem pe_chain {op op' : CmpOp} {r r' : R2} (ho : OpR X (compareOp op) r) (ho' : OpR X (compareOp op') r') (ha : PE X a ta) (hb : PE X b tb) (hc : PE X c tc)
    (hm : lastMarks [op, op'] [b, c] = false := by with_unfolding_all rfl) : PE X (.Compare a [op, op'] [b, c] pos) (tChain r r' ta tb tc) := by
  intro pins s σ H Q I h
  refine Compare_chain (thn (ha pins s σ H _ I h) fun v s1 ⟨x, H1, I1, r1, q1⟩ => chain_link (thn (hb pins s1 σ H1 _ I1 q1) fun u s2 ⟨y, H2, I2, r2, q2⟩ =>
    thn (ho pins s2 σ H2 x y v u _ I2 r1 r2 q2) fun d s3 ⟨z, H3, I3, r3, k, e, q3⟩ => ?_)) hm
  subst e
  cases r3
  refine wpAny_truthy_bool ?_
  cases k with
  | false => exact ite_ff ⟨.bl false, H3, I3, rfl, q3⟩
  | true => exact ite_tt (chain_last (thn (hc pins s3 σ H3 _ I3 q3) fun w' s4 ⟨z', H4, I4, r4, q4⟩ => ho' pins s4 σ H4 y z' u w' Q I4 r2 r4 q4))
/-! ### truth -/
/-- a value's truth by the abstract heap -/
def TruV (K : PySem.W.Frag) (x : V) (H : Hp) (k : Bool) : Prop :=
  match x with
  | .non => k = false
  | .bl b => k = b
  | .int i => k = (i != 0)
  | .str y => y.length ≤ sizeLine ∧ k = ((y.length : Int) != 0)
  | .byt y => y.size ≤ sizeLine ∧ k = ((y.size : Int) != 0)
  | .ref p => (∃ xs, SqL K H p xs ∧ k = !xs.isEmpty) ∨ (∃ xs, SqT K H p xs ∧ k = !xs.isEmpty) ∨ ∃ kvs, H p = some (.dK kvs) ∧ k = !kvs.isEmpty
  | _ => False
theorem isEmpty_kv {κ : Type} {kvs : List (κ × V)} {vs : List (κ × Value)} (r : KV kvs vs) : (!vs.isEmpty) = !kvs.isEmpty := by
  cases r <;> rfl
theorem isEmpty_of {xs : List V} {its : List Value} (r : Vals xs its) : (!its.toArray.isEmpty) = !xs.isEmpty := by
  cases r <;> simp
theorem line63 : (sizeLine : Nat) < 2 ^ 63 := by rw [sizeLine_eq]; decide
theorem tru_ok : TruR X (fun x H Q => ∃ k, TruV X.K x H k ∧ Q k H) := by
  intro pins s σ H x v Q I rx h
  obtain ⟨k, e, q⟩ := h
  have hl := line63
  have hs : sizeLine = 16777216 := sizeLine_eq
  cases x with
  | non =>
    cases rx
    have e' : k = false := e
    subst e'
    exact truthy_none ⟨H, I, q⟩
  | bl b =>
    cases rx
    have e' : k = b := e
    subst e'
    exact wpAny_truthy_bool ⟨H, I, q⟩
  | int i =>
    obtain ⟨t, rfl⟩ := rx
    have e' : k = (i != 0) := e
    subst e'
    exact PySem.P.truthy_int ⟨H, I, q⟩
  | str y =>
    obtain ⟨t, rfl⟩ := rx
    obtain ⟨hy, e'⟩ : y.length ≤ sizeLine ∧ k = ((y.length : Int) != 0) := e
    subst e'
    exact PySem.P.truthy_str (by omega) ⟨H, I.tok _, q⟩
  | byt y =>
    obtain ⟨t, rfl⟩ := rx
    obtain ⟨hy, e'⟩ : y.size ≤ sizeLine ∧ k = ((y.size : Int) != 0) := e
    subst e'
    exact PySem.W.truthy_bytes (by omega) ⟨H, I.tok _, q⟩
  | ref p =>
    cases rx
    have e' : (∃ xs, SqL X.K H p xs ∧ k = !xs.isEmpty) ∨ (∃ xs, SqT X.K H p xs ∧ k = !xs.isEmpty) ∨ ∃ kvs, H p = some (.dK kvs) ∧ k = !kvs.isEmpty := e
    rcases e' with ⟨xs, hx, e'⟩ | ⟨xs, hx, e'⟩ | ⟨kvs, hx, e'⟩
    · subst e'
      obtain ⟨its, r, pl, hz⟩ := I.list hx
      have hlen := r.length
      exact wpAny_truthy_list pl.isList (by simp only [List.size_toArray]; omega) ⟨H, I.tok _, by rw [isEmpty_of r]; exact q⟩
    · subst e'
      obtain ⟨its, r, pl, hz⟩ := I.tuple hx
      have hlen := r.length
      exact truthy_tuple pl (by simp only [List.size_toArray]; omega) ⟨H, I.tok _, by rw [isEmpty_of r]; exact q⟩
    · subst e'
      obtain ⟨hz, hS, vs, r, m⟩ : kvs.length ≤ sizeLine ∧ (p == sysModules) = false ∧ ∃ vs, KV kvs vs ∧ s.heap.DictOf (mixKind X.prog X.w) p vs := I.hok p _ hx
      have hlen : kvs.length = vs.length := Paired.length r
      exact wpAny_truthy_dict hS m (by omega) ⟨H, I.tok _, by rw [isEmpty_kv r]; exact q⟩
  | _ => exact (show False from e).elim
/-- any expression whose test is its value's truth (a name, a call, a subscript, a field ..: he by fun _ => rfl) -/
theorem pt_truth (ha : PE X a ta) (he : ∀ whole, isTrue a X.env whole = (do let v ← whole; standAt a.pos; holding [v] (truthy v))) :
    PT X a (fun σ H Q => ta σ H fun x H' => ∃ k, TruV X.K x H' k ∧ Q k H') := by
  intro pins s σ H Q I h
  exact isTrue_plain (thn (ha pins s σ H _ I h) fun v s1 ⟨x, H1, I1, r1, q1⟩ => tru_ok pins s1 σ H1 x v Q I1 r1 q1) (he _)

/-! ### strs and bytes -/
/-! ### scalar builtins, by CallR -/
theorem vals1 {x : V} {us : List Value} (r : Vals [x] us) : ∃ u, us = [u] ∧ RelV x u := by
  cases r with
  | cons r1 r2 => cases r2; exact ⟨_, rfl, r1⟩
theorem vals2 {x y : V} {us : List Value} (r : Vals [x, y] us) : ∃ u w', us = [u, w'] ∧ RelV x u ∧ RelV y w' := by
  cases r with
  | cons r1 r2 =>
    cases r2 with
    | cons r3 r4 => cases r4; exact ⟨_, _, rfl, r1, r3⟩
theorem call_max2 (hc : X.calm = true) : CallR X (.builtin "max") (fun xs H Q => ∃ i j, xs = [.int i, .int j] ∧ Q (.int (if j > i then j else i)) H) := by
  intro pins s σ H xs us Q I r h
  obtain ⟨i, j, rfl, q⟩ := h
  obtain ⟨u, w', rfl, ⟨t, rfl⟩, ⟨t', rfl⟩⟩ := vals2 r
  refine max_two_ints (I.ok.hd hc) fun h' tk k => ⟨_, H, I.kept k, ?_, q⟩
  by_cases hj : j > i
  · rw [if_pos hj, if_pos hj]; exact ⟨_, rfl⟩
  · rw [if_neg hj, if_neg hj]; exact ⟨_, rfl⟩
end
end L2

namespace L2
open PySem PySem.Spec PyProof.Rows

/-! ### an instance, its attributes a map -/
structure ObjM (h : Heap) (x dx C : Addr) (mA : Str → Option Value) : Prop where
  obj : h.get? x = some (PySem.W.instObj C dx)
  ns : h.Ns1 dx mA
  ne : dx ≠ x

theorem lookIn_ns {h : Heap} {dx : Addr} {mA : Str → Option Value} (n : h.Ns1 dx mA) : ∃ od, h.get? dx = some od ∧ ∀ name, PySem.W.lookIn name od = some (mA name) := by
  obtain ⟨o, es, ep, ho, hd, hk, _, hm⟩ := n
  refine ⟨o, ho, fun name => ?_⟩
  have e := hm name
  unfold nsFind findBy at e
  rw [← Array.find?_toList] at e
  unfold PySem.W.lookIn
  rw [hd]
  dsimp only
  split
  · rename_i y q
    rw [q] at e
    exact congrArg some e
  · rename_i q
    rw [q] at e
    have a : es.toList.any (·.refKey) = false := by
      rw [List.any_eq_false]
      intro y hy
      obtain ⟨z, t, hkey⟩ := hk y (Array.mem_toList_iff.mp hy)
      simp [DictEntry.refKey, hkey]
    have a' : ¬ es.toList.any (·.refKey) = true := by rw [a]; exact Bool.false_ne_true
    rw [if_neg a']
    exact congrArg some e

theorem ObjM.look {h : Heap} {x dx C : Addr} {mA : Str → Option Value} (I : ObjM h x dx C mA) : ∃ od, PySem.W.InstAt h x (PySem.W.instObj C dx) C (some od) ∧ ∀ name, PySem.W.lookIn name od = some (mA name) :=
  let ⟨od, ho, hl⟩ := lookIn_ns I.ns
  ⟨od, ⟨I.obj, rfl, rfl, ho⟩, hl⟩

section
variable {prog : Program} {w : World} {A : Around} {E : Value → Shared → Prop} {s : Shared} {K : PySem.W.Frag} {x dx C f : Addr} {mA : Str → Option Value} {name : Str} {v : Value}

theorem get_map {expr : Bool} {Q : Value → Shared → Prop} (X : K.In s.heap) (I : ObjM s.heap x dx C mA) (hg : PySem.W.plainGet K C name = true) (hh : PySem.W.hasDictIn K C = true)
    (ha : PySem.W.findIn K (.ref C) name = some none) (hv : mA name = some v) (hv' : PySem.W.handedIn v = true) (h : Q v { s with toks := s.toks + 1 }) :
    wpAny (model prog w) A (getAttr (.ref x) name expr) Q E s := by
  obtain ⟨od, J, hl⟩ := I.look
  exact PySem.W.get_value X J (PySem.W.plainGet_of hg).1 (PySem.W.findObj_own hh ha rfl (by rw [hl, hv])) hv' h

theorem get_meth {pl : Sem Bool} {Q : Value × List Value → Shared → Prop} (X : K.In s.heap) (I : ObjM s.heap x dx C mA) (hg : PySem.W.plainGet K C name = true)
    (hf : PySem.W.findIn K (.ref C) name = some (some (.ref f))) (ht : PySem.W.isFn K (.ref f) = true) (hv : mA name = none) (h : Q (.ref f, [.ref x]) s) :
    wpAny (model prog w) A (getMethod (.ref x) name pl) Q E s := by
  obtain ⟨od, J, hl⟩ := I.look
  exact PySem.W.method_fn X J (PySem.W.plainGet_of hg).1 (PySem.W.plainGet_of hg).2 hf (beq_iff_eq.mp ht) (by show (PySem.W.lookIn name od).map (·.isSome) = some false; rw [hl, hv]; rfl) h

theorem set_map {ns : List Str} {Q : Unit → Shared → Prop} (X : K.In s.heap) (I : ObjM s.heap x dx C mA)
    (hs : PySem.W.findIn K (.ref C) "__setattr__" = some (some (.builtin "object.__setattr__"))) (hp : PySem.W.plainOver K C = true) (ht : PySem.W.takerIn K C name = some none) (hh : PySem.W.hasDictIn K C = true)
    (hw : PySem.Within mA ns) (hsz : ns.length ≤ sizeLine)
    (h : ∀ h', ObjM h' x dx C (fun y => if y = name then some v else mA y) → Heap.SameBut dx s.heap h' → Q () { s with heap := h', toks := s.toks + 2 }) :
    wpAny (model prog w) A (setAttr (.ref x) name v) Q E s := by
  obtain ⟨od, J, hl⟩ := I.look
  refine PySem.W.set_plain X J hs (PySem.W.osa_open (s := { s with toks := s.toks + 1 }) (r := none) X J hp ht fun b => ?_)
  obtain ⟨cd, hc, hd'⟩ := PySem.W.any_some hh
  have hx : s.heap.get? x = some ⟨.ref C, some dx, .plain, #[]⟩ := I.obj
  refine wpAny_bind (wpAny_pure (wpAny_bind (wpAny_bind (wpAny_loadPart hx (wpAny_bind (PySem.W.Looks.here (s := { s with toks := s.toks + 1 }) (PySem.W.looks_clsIn X hc) ?_))))))
  rw [hd']
  refine wpAny_pure (a := some dx) (wpAny_bind (wpAny_pure (wpAny_bind ?_)))
  refine wpAny_nsSet1 (s := { s with toks := s.toks + 1 }) I.ns fun h' hn2 hs2 => ?_
  obtain ⟨oD, esD, epD, hoD, hdD, hcD⟩ := hn2.count (PySem.Within.cons name v hw)
  refine wpAny_bind (wpAny_lookBehind hoD (by rw [hdD]; exact pastItsLine_dict (Nat.le_trans hcD (by rw [List.length_cons]; omega))) ?_)
  exact wpAny_pure (h _ ⟨(hs2.2 _ (Ne.symm I.ne)).trans I.obj, hn2, I.ne⟩ hs2)

/-- C(..): the dict at the heap's end, the instance behind it; then its __init__ -/
theorem make_map {R : Result → Shared → Prop} {vs : List Value} {kw : List (Str × Value)} (X : K.In s.heap) (hm : PySem.W.makesIn K C = true)
    (hi : PySem.W.findIn K (.ref C) "__init__" = some (some (.ref f))) (hf : PySem.W.typeIn K (.ref f) = some (.type "function"))
    (h : codeAny (model prog w) (A.under (.builtin "type.__call__" ⟨.ref C :: vs, kw⟩)) (.call (.ref f) ⟨.ref (s.heap.objs.size + 1) :: vs, kw⟩) (PySem.W.InitBack (s.heap.objs.size + 1) R)
      { s with heap := (s.heap.push PySem.W.emptyDict).push (PySem.W.instObj C s.heap.objs.size) }) :
    codeAny (model prog w) A (.call (.ref C) ⟨vs, kw⟩) R s := by
  obtain ⟨hh, g, d, t, os⟩ := s
  exact PySem.W.make_core (PySem.W.makes_of X hm) (PySem.W.looks_findIn X hi) (fun self => PySem.W.bind_fn X self hf) (.inl rfl) h
end

/-! ### the attributes as a list of pairs -/
def putF (f : Str) (v : V) : List (Str × V) → List (Str × V)
  | [] => [(f, v)]
  | (g, x) :: r => if g = f then (g, v) :: r else (g, x) :: putF f v r
theorem lookup_putF (f g : Str) (v : V) : ∀ fs : List (Str × V), (putF f v fs).lookup g = if g = f then some v else fs.lookup g
  | [] => by
    show List.lookup g [(f, v)] = _
    by_cases h : g = f
    · have hb : (g == f) = true := beq_iff_eq.mpr h
      simp only [List.lookup, hb, if_pos h]
    · have hb : (g == f) = false := beq_eq_false_iff_ne.mpr h
      simp only [List.lookup, hb, if_neg h]
  | (k, x) :: r => by
    have ih := lookup_putF f g v r
    rw [show putF f v ((k, x) :: r) = (if k = f then (k, v) :: r else (k, x) :: putF f v r) from rfl]
    by_cases hk : k = f
    · rw [if_pos hk]
      by_cases h : g = k
      · have hb : (g == k) = true := beq_iff_eq.mpr h
        simp only [List.lookup, hb, if_pos (h.trans hk)]
      · have hb : (g == k) = false := beq_eq_false_iff_ne.mpr h
        simp only [List.lookup, hb, if_neg (fun e : g = f => h (e.trans hk.symm))]
    · rw [if_neg hk]
      by_cases h : g = k
      · have hb : (g == k) = true := beq_iff_eq.mpr h
        simp only [List.lookup, hb, if_neg (fun e : g = f => hk (h.symm.trans e))]
      · have hb : (g == k) = false := beq_eq_false_iff_ne.mpr h
        simp only [List.lookup, hb]
        exact ih
theorem keys_putF (f : Str) (v : V) : ∀ fs : List (Str × V), f ∈ (putF f v fs).map (·.1) ∧ ∀ g, g ∈ fs.map (·.1) → g ∈ (putF f v fs).map (·.1)
  | [] => ⟨by simp [putF], fun g h => by simp at h⟩
  | (k, x) :: r => by
    obtain ⟨i1, i2⟩ := keys_putF f v r
    rw [show putF f v ((k, x) :: r) = (if k = f then (k, v) :: r else (k, x) :: putF f v r) from rfl]
    by_cases hk : k = f
    · rw [if_pos hk]
      subst hk
      exact ⟨by simp, fun g h => by simpa using h⟩
    · rw [if_neg hk]
      refine ⟨?_, fun g h => ?_⟩
      · rw [List.map_cons]
        exact List.mem_cons_of_mem _ i1
      · rw [List.map_cons] at h ⊢
        rcases List.mem_cons.mp h with e | e
        · exact List.mem_cons.mpr (.inl e)
        · exact List.mem_cons_of_mem _ (i2 g e)
theorem length_putF (f : Str) (v : V) : ∀ fs : List (Str × V), (putF f v fs).length ≤ fs.length + 1
  | [] => by simp [putF]
  | (k, x) :: r => by
    have ih := length_putF f v r
    rw [show putF f v ((k, x) :: r) = (if k = f then (k, v) :: r else (k, x) :: putF f v r) from rfl]
    by_cases hk : k = f
    · rw [if_pos hk, List.length_cons, List.length_cons]; omega
    · rw [if_neg hk, List.length_cons, List.length_cons]; omega

theorem RelO.some_of {v : V} {o : Option Value} (r : RelO (some v) o) : ∃ u, o = some u ∧ RelV v u := by
  cases o with
  | none => exact (show False from r).elim
  | some u => exact ⟨u, rfl, r⟩
theorem RelO.none_of {o : Option Value} (r : RelO none o) : o = none := by
  cases o with
  | none => rfl
  | some u => exact (show False from r).elim
theorem handed_of {v : V} {u : Value} (r : RelV v u) : PySem.W.handedIn u = true := by
  cases v with
  | non => cases (show u = Value.none from r); rfl
  | bl b => cases (show u = Value.bool b from r); rfl
  | int i => obtain ⟨t, e⟩ := (show ∃ t, u = Value.int i t from r); cases e; rfl
  | str x => obtain ⟨t, e⟩ := (show ∃ t, u = Value.str x t from r); cases e; rfl
  | byt b => obtain ⟨t, e⟩ := (show ∃ t, u = Value.bytes b t from r); cases e; rfl
  | flt b => obtain ⟨t, e⟩ := (show ∃ t, u = Value.float b t from r); cases e; rfl
  | ref a => cases (show u = Value.ref a from r); rfl
  | ty n => cases (show u = Value.type n from r); rfl

section
variable {P : Program} {w : World} {H H' : Hp} {h h' : Heap} {a C dx : Addr} {fs fs' : List (Str × V)}
theorem ins_get (hok : HOk P w H h) (e : H a = some (.ins C dx fs)) : ∃ mA, ObjM h a dx C mA ∧ (∀ f, RelO (fs.lookup f) (mA f)) ∧ PySem.Within mA (fs.map (·.1)) ∧ fs.length ≤ 1000 ∧ H dx = some (.own a) := by
  obtain ⟨d, z, ne, ob, mA, n, r, q⟩ := (show ObjOk P w H h a (.ins C dx fs) from hok a _ e)
  exact ⟨mA, ⟨ob, n, ne⟩, r, q, z, d⟩
end

/-! ### what of the text a class must have -/
structure Cls (K : PySem.W.Frag) (C : Addr) : Prop where
  pg : PySem.W.plainGet K C Str.empty = true
  hd : PySem.W.hasDictIn K C = true
  po : PySem.W.plainOver K C = true
  sa : PySem.W.findIn K (.ref C) "__setattr__" = some (some (.builtin "object.__setattr__"))
theorem Cls.get {K : PySem.W.Frag} {C : Addr} (c : Cls K C) (f : Str) : PySem.W.plainGet K C f = true := c.pg
/-- no class of it has the name -/
def NoAttr (K : PySem.W.Frag) (C : Addr) (f : Str) : Prop := PySem.W.findIn K (.ref C) f = some none
theorem NoAttr.taker {K : PySem.W.Frag} {C : Addr} {f : Str} (n : NoAttr K C f) : PySem.W.takerIn K C f = some none := by
  unfold PySem.W.takerIn
  rw [show PySem.W.findIn K (.ref C) f = some none from n]
  rfl
/-- a constant of the class -/
structure Con (K : PySem.W.Frag) (C : Addr) (f : Str) (v : V) (u : Value) : Prop where
  at_ : PySem.W.findIn K (.ref C) f = some (some u)
  rel : RelV v u
  get : PySem.W.specialIn K u "__get__" = some none
  cp : PySem.W.copiedNames.contains f = false
/-- a method: a plain def of the class or of one above it -/
structure Meth (K : PySem.W.Frag) (C : Addr) (m : Str) (f : Addr) : Prop where
  at_ : PySem.W.findIn K (.ref C) m = some (some (.ref f))
  fn : PySem.W.isFn K (.ref f) = true
  kp : PySem.W.keepIn K (.ref f) = true

section
variable {X : Cx} {pins : List (Addr × Obj)} {σ : St} {H : Hp} {s : Shared} {a C dx : Addr} {fs : List (Str × V)} {f : Str} {v : V} {A : Around} {E : Value → Shared → Prop}

theorem getattr_ok {b : Bool} {Q : Value → Shared → Prop} (I : Inv X pins σ H s) (e : H a = some (.ins C dx fs)) (c : Cls X.K C) (n : NoAttr X.K C f) (l : fs.lookup f = some v)
    (h : ∀ u s', Inv X pins σ H s' → RelV v u → Q u s') : wpAny (model X.prog X.w) A (getAttr (.ref a) f b) Q E s := by
  obtain ⟨mA, O, r, _, _, _⟩ := ins_get I.hok e
  obtain ⟨u, hu, ru⟩ := RelO.some_of (v := v) (o := mA f) (by rw [← l]; exact r f)
  exact get_map I.kIn O (c.get f) c.hd n hu (handed_of ru) (h u _ (I.tok _) ru)

theorem getmeth_ok {m : Str} {g : Addr} {pl : Sem Bool} {Q : Value × List Value → Shared → Prop} (I : Inv X pins σ H s) (e : H a = some (.ins C dx fs)) (c : Cls X.K C) (k : Meth X.K C m g) (l : fs.lookup m = none)
    (h : Q (.ref g, [.ref a]) s) : wpAny (model X.prog X.w) A (getMethod (.ref a) m pl) Q E s := by
  obtain ⟨mA, O, r, _, _, _⟩ := ins_get I.hok e
  have hn : mA m = none := RelO.none_of (by rw [← l]; exact r m)
  exact get_meth I.kIn O (c.get m) k.at_ k.fn hn h

theorem setattr_ok {y : V} {u : Value} {Q : Unit → Shared → Prop} (I : Inv X pins σ H s) (e : H a = some (.ins C dx fs)) (c : Cls X.K C) (n : NoAttr X.K C f) (hl : fs.length < 1000) (ry : RelV y u)
    (h : ∀ s', Inv X pins σ (upd H a (.ins C dx (putF f y fs))) s' → Q () s') : wpAny (model X.prog X.w) A (setAttr (.ref a) f u) Q E s := by
  obtain ⟨mA, O, r, wi, _, ho⟩ := ins_get I.hok e
  have hz : (fs.map (·.1)).length ≤ sizeLine := by rw [List.length_map, sizeLine_eq]; omega
  refine set_map I.kIn O c.sa c.po n.taker c.hd wi hz fun h' O' sb => h _ ?_
  have hd : ∃ o, h'.get? dx = some o := let ⟨o, _, _, e', _⟩ := O'.ns; ⟨o, e'⟩
  refine I.write (x := a) (e := dx) (by rw [e]; exact True.intro) (.inr ho) (fun b q hb z => (sb.2 b hb).trans z) hd ?_
  refine ⟨by rw [upd_ne O.ne]; exact ho, ?_, O.ne, O'.obj, _, O'.ns, fun g => ?_, fun g hg => ?_⟩
  · have := length_putF f y fs; omega
  · show RelO ((putF f y fs).lookup g) (if g = f then some u else mA g)
    rw [lookup_putF]
    by_cases q : g = f
    · rw [if_pos q, if_pos q]; exact ry
    · rw [if_neg q, if_neg q]; exact r g
  · by_cases q : g = f
    · rw [q]; exact (keys_putF f y fs).1
    · refine (keys_putF f y fs).2 g (wi g fun z => hg ?_)
      show (if g = f then some u else mA g) = none
      rw [if_neg q]; exact z

/-- a new instance, tracked, without attributes -/
theorem Inv.made (I : Inv X pins σ H s) : Inv X pins σ (upd (upd H s.heap.objs.size (.own (s.heap.objs.size + 1))) (s.heap.objs.size + 1) (.ins C s.heap.objs.size []))
    { s with heap := (s.heap.push PySem.W.emptyDict).push (PySem.W.instObj C s.heap.objs.size) } := by
  have e1 : (s.heap.push PySem.W.emptyDict).get? s.heap.objs.size = some PySem.W.emptyDict := Heap.get?_push_size s.heap rfl
  have e2 : ((s.heap.push PySem.W.emptyDict).push (PySem.W.instObj C s.heap.objs.size)).get? (s.heap.objs.size + 1) = some (PySem.W.instObj C s.heap.objs.size) := by
    have := Heap.get?_push_size (s.heap.push PySem.W.emptyDict) (o := PySem.W.instObj C s.heap.objs.size) rfl
    rwa [Heap.size_push] at this
  have e3 : (s.heap.push PySem.W.emptyDict).Ns s.heap.objs.size (fun _ => none) := ⟨PySem.W.emptyDict, #[], _, e1, rfl, (fun e he => absurd he (by simp)), fun _ => rfl⟩
  have I1 := I.laid (a := s.heap.objs.size) (o := .own (s.heap.objs.size + 1)) (h' := s.heap.push PySem.W.emptyDict) (t' := s.toks) (fun b u q => Heap.get?_push_of_some _ q) (Nat.le_refl _) ⟨_, e1⟩
  refine I1.laid (a := s.heap.objs.size + 1) (o := .ins C s.heap.objs.size []) (t' := s.toks) (fun b u q => Heap.get?_push_of_some _ q) (Nat.le_of_eq (Heap.size_push _ _)) ?_
  have ne : s.heap.objs.size ≠ s.heap.objs.size + 1 := Nat.ne_of_lt (Nat.lt_succ_self _)
  refine ⟨by rw [upd_ne ne, upd_same], Nat.zero_le _, ne, e2, fun _ => none, (Heap.Ns1.of_empty e3).at fun o q => Heap.get?_push_of_some _ q, fun _ => True.intro, fun y hy => absurd rfl hy⟩

/-- e.f where nothing but the object is asked: through attributeBase (super) and the last hold -/
theorem attr_of {prog : Program} {w : World} {env : Env} {e : Expr} {f : Str} {pos : Pos} {s : Shared} {Q : Value → Shared → Prop} (hb : attributeBase e f env (eval e env) = eval e env)
    (h : wpAny (model prog w) A (eval e env) (fun o s₁ => wpAny (model prog w) A (getAttr o f true) Q E s₁) E s) : wpAny (model prog w) A (eval (.Attribute e f pos) env) Q E s :=
  Attribute_any_ h (by rw [arm_eval_Attribute, hb])
end

/-! ### readings and rules -/
/-- e.f, an attribute of the instance -/
def tFld (K : PySem.W.Frag) (ta : TE) (f : Str) : TE := fun σ H Q => ta σ H fun x H1 => ∃ a C dx fs v, x = .ref a ∧ H1 a = some (.ins C dx fs) ∧ Cls K C ∧ NoAttr K C f ∧ fs.lookup f = some v ∧ Q v H1
/-- e.f = value -/
def sFld (K : PySem.W.Frag) (ta tv : TE) (f : Str) : TS := fun D σ H => tv σ H fun y H1 => ta σ H1 fun x H2 => ∃ a C dx fs, x = .ref a ∧ H2 a = some (.ins C dx fs) ∧ Cls K C ∧ NoAttr K C f ∧ fs.length < 1000 ∧
  D.nx σ (upd H2 a (.ins C dx (putF f y fs)))
section
variable {X : Cx} {o e value : Expr} {f : Str} {pos pos' tpos : Pos} {ta tv : TE}
theorem pe_fld (he : PE X e ta) (hb : attributeBase e f X.env (eval e X.env) = eval e X.env) : PE X (.Attribute e f pos) (tFld X.K ta f) := by
  intro pins s σ H Q I h
  refine attr_of hb (thn (he pins s σ H _ I h) fun u s1 ⟨x, H1, I1, rx, a, C, dx, fs, v, ex, ea, c, n, l, q⟩ => ?_)
  subst ex
  obtain rfl : u = Value.ref a := rx
  exact getattr_ok I1 ea c n l fun u' s2 I2 ru => ⟨v, H1, I2, ru, q⟩
theorem ps_fld (ha : PE X o ta) (hv : PE X value tv) (hs : swapsWith value (some (.Attribute o f pos')) pos.line X.env = pure false) : PS X (.Assign [.Attribute o f pos'] value pos) (sFld X.K ta tv f) := by
  intro pins s σ H D I h
  refine plainObj_wpAny_Assign_Attribute (thn (hv pins s σ H _ I h) fun u s1 ⟨y, H1, I1, ry, q⟩ => thn (ha pins s1 σ H1 _ I1 q) fun ov s2 ⟨x, H2, I2, rx, a, C, dx, fs, ex, ea, c, n, l, q2⟩ => ?_) hs
  subst ex
  obtain rfl : ov = Value.ref a := rx
  exact setattr_ok I2 ea c n l ry fun s3 I3 => ⟨σ, _, I3, q2⟩
end

/-! ### isinstance -/
section
variable {X : Cx} {pins : List (Addr × Obj)} {σ : St} {H : Hp} {s : Shared} {A : Around} {E : Value → Shared → Prop} {Q : Value → Shared → Prop} {c : Value} {b : Bool}
/-- the type of a value, as the fragment's deciders take it; for an instance its class -/
inductive TyOf (K : PySem.W.Frag) (H : Hp) : V → Value → Prop where
  | non : TyOf K H .non (.type "NoneType")
  | bl (x : Bool) : TyOf K H (.bl x) (.type "bool")
  | int (i : Int) : TyOf K H (.int i) (.type "int")
  | str (x : Str) : TyOf K H (.str x) (.type "str")
  | flt (x : UInt64) : TyOf K H (.flt x) (.type "float")
  | lst {a : Addr} {xs : List V} (e : H a = some (.lst xs)) : TyOf K H (.ref a) (.type "list")
  | frz {a : Addr} {o : Obj} {xs : List V} (e : H a = some (.frz o (.lst xs))) : TyOf K H (.ref a) (.type "list")
  | tup {a : Addr} {xs : List V} (e : H a = some (.tup xs)) : TyOf K H (.ref a) (.type "tuple")
  | dK {a : Addr} {kvs : List (Key × V)} (e : H a = some (.dK kvs)) : TyOf K H (.ref a) (.type "dict")
  | dT {a : Addr} {kvs : List (List Key × V)} (e : H a = some (.dT kvs)) : TyOf K H (.ref a) (.type "dict")
  | ins {a C dx : Addr} {fs : List (Str × V)} (e : H a = some (.ins C dx fs)) (cl : Cls K C) (ha : PySem.W.findIn K (.ref C) "__class__" = some (some (.builtin "object.__class__")))
      (hn : PySem.W.specialIn K (.builtin "object.__class__") "__get__" = some (some (.builtin "getset_descriptor.__get__"))) (htk : PySem.W.takesIn K (.builtin "object.__class__") = some true)
      (hm : PySem.W.mroIn K C (.type "object") = some true) : TyOf K H (.ref a) (.ref C)
/-- isinstance(x, c) for one class c, a built-in or an own one: kitOne's answer -/
theorem isinst_ok {x : V} {u t : Value} (I : Inv X pins σ H s) (rx : RelV x u) (ty : TyOf X.K H x t) (e : PySem.W.kitOne X.K t c = some b) (h : ∀ tk, Q (.bool b) { s with toks := tk }) :
    wpAny (model X.prog X.w) A (call (.builtin "isinstance") [u, c]) Q E s := by
  cases ty with
  | non => cases (show u = Value.none from rx); exact PySem.W.kia_one PySem.W.kitx_none I.kIn True.intro e (fun z => nomatch z) h
  | bl y => cases (show u = Value.bool y from rx); exact PySem.W.kia_one PySem.W.kitx_bool I.kIn True.intro e (fun z => nomatch z) h
  | int i => obtain ⟨t, q⟩ := (show ∃ t, u = Value.int i t from rx); cases q; exact PySem.W.kia_one PySem.W.kitx_int I.kIn True.intro e (fun z => nomatch z) h
  | str y => obtain ⟨t, q⟩ := (show ∃ t, u = Value.str y t from rx); cases q; exact PySem.W.kia_one PySem.W.kitx_str I.kIn True.intro e (fun z => nomatch z) h
  | flt y => obtain ⟨t, q⟩ := (show ∃ t, u = Value.float y t from rx); cases q; exact PySem.W.kia_one PySem.W.kitx_float I.kIn True.intro e (fun z => nomatch z) h
  | @lst a xs ea =>
    cases (show u = Value.ref a from rx)
    obtain ⟨_, _, n, _, h1⟩ := (show ObjOk X.prog X.w H s.heap a (.lst xs) from I.hok a _ ea)
    exact PySem.W.kia_one PySem.W.kitx_list I.kIn ⟨_, h1, rfl⟩ e (fun z => nomatch z) h
  | @frz a ob xs ea =>
    cases (show u = Value.ref a from rx)
    obtain ⟨_, _, _, n, _, h1⟩ := (show ObjOk X.prog X.w H s.heap a (.frz ob (.lst xs)) from I.hok a _ ea)
    exact PySem.W.kia_one PySem.W.kitx_list I.kIn ⟨_, h1, rfl⟩ e (fun z => nomatch z) h
  | @tup a xs ea =>
    cases (show u = Value.ref a from rx)
    obtain ⟨_, _, _, p⟩ := (show ObjOk X.prog X.w H s.heap a (.tup xs) from I.hok a _ ea)
    obtain ⟨o, h1, h2, _⟩ := p
    exact PySem.W.kia_one PySem.W.kitx_tuple I.kIn ⟨o, h1, h2⟩ e (fun z => nomatch z) h
  | @dK a kvs ea =>
    cases (show u = Value.ref a from rx)
    obtain ⟨_, _, vs, _, p⟩ := (show ObjOk X.prog X.w H s.heap a (.dK kvs) from I.hok a _ ea)
    obtain ⟨o, es, ep, h1, h2, _⟩ := p
    exact PySem.W.kia_one PySem.W.kitx_dict I.kIn ⟨o, h1, h2.1⟩ e (fun z => nomatch z) h
  | @dT a kvs ea =>
    cases (show u = Value.ref a from rx)
    obtain ⟨_, _, xs, _, o, es, ep, h1, h2, _⟩ := (show ObjOk X.prog X.w H s.heap a (.dT kvs) from I.hok a _ ea)
    exact PySem.W.kia_one PySem.W.kitx_dict I.kIn ⟨o, h1, h2.1⟩ e (fun z => nomatch z) h
  | @ins a C dx fs ea cl ha hn htk hm =>
    cases (show u = Value.ref a from rx)
    obtain ⟨mA, O, _⟩ := ins_get I.hok ea
    obtain ⟨od, J, _⟩ := O.look
    exact PySem.W.kia_one (PySem.W.kitx_own (cl.get _) cl.hd ha hn htk hm) I.kIn J e (fun z => nomatch z) h
end
end L2

namespace L2
open PySem PySem.Spec PyProof.Rows

/-! ### room -/
structure Room (k : Nat) (A : Around) : Prop where
  hd : A.handled = none
  dp : A.depth + 3 * k + 5 < recursionLimit
  un : A.units + 16 * k + 200 < cLine
theorem Room.mono {j k : Nat} {A : Around} (r : Room k A) (h : j ≤ k) : Room j A := ⟨r.hd, by have := r.dp; omega, by have := r.un; omega⟩
theorem Room.deeper {k : Nat} {A : Around} (r : Room (k + 1) A) (env : Env) : Room k (A.deeper env) :=
  ⟨r.hd, by have := r.dp; show A.depth + 1 + 3 * k + 5 < _; omega, by have := r.un; show A.units + 3 + 16 * k + 200 < _; omega⟩
theorem Room.in1 {k : Nat} {A : Around} (r : Room (k + 1) A) : Room k A.in1 :=
  ⟨r.hd, by have := r.dp; show A.depth + 3 * k + 5 < _; omega, by have := r.un; show A.units + 1 + 16 * k + 200 < _; omega⟩
theorem make_depth {A : Around} {C : Addr} {us : List Value} {kw : List (Str × Value)} : (A.under (.builtin "type.__call__" ⟨.ref C :: us, kw⟩)).depth = A.depth + 1 := by
  first | rfl | simp [Around.under, Code.weight, Code.isCreation, Code.isGuard, Code.isCaller, Code.frames, Code.isFrame, guardIds]
theorem make_units {A : Around} {C : Addr} {us : List Value} {kw : List (Str × Value)} : (A.under (.builtin "type.__call__" ⟨.ref C :: us, kw⟩)).units = A.units + 1 := by
  first | rfl | simp [Around.under, Code.cUnits, Code.frames, Code.isFrame]
theorem Room.make {k : Nat} {A : Around} (r : Room (k + 1) A) (C : Addr) (us : List Value) (kw : List (Str × Value)) : Room k (A.under (.builtin "type.__call__" ⟨.ref C :: us, kw⟩)) :=
  ⟨r.hd, by have := r.dp; rw [make_depth]; omega, by have := r.un; rw [make_units]; omega⟩
theorem Room.depth {k : Nat} {A : Around} (r : Room k A) : A.depth < recursionLimit := by have := r.dp; omega
theorem Room.units {k : Nat} {A : Around} (r : Room k A) : A.units + 64 < cLine := by have := r.un; omega
/-! ### argument lists and displays -/
def tNil : TA := fun _ H Q => Q [] H
def tCons (ta : TE) (tr : TA) : TA := fun σ H Q => ta σ H fun x H1 => tr σ H1 fun xs H2 => Q (x :: xs) H2
section
variable {X : Cx} {e : Expr} {es : List Expr} {te : TE} {t : TA} {pos : Pos}
theorem pa_nil : PA X [] tNil := fun _ _ _ _ H Q I h => Calls.spliced_nil ⟨[], H, I, .nil, h⟩
theorem pa_cons (ha : PE X e te) (hr : PA X es t) (hs : starEach (e :: es) X.env = (false, eval e X.env) :: starEach es X.env := by rfl) : PA X (e :: es) (tCons te t) := by
  intro pos pins s σ H Q I h
  rw [hs]
  show wpAny _ _ (spliced ((false, eval e X.env) :: backTo pos (starEach es X.env))) _ _ s
  refine Calls.spliced_cons (thn (ha pins s σ H _ I h) fun u s1 ⟨x, H1, I1, r1, q1⟩ => ?_)
  exact thn (hr pos pins s1 σ H1 _ I1 q1) fun us s2 ⟨xs, H2, I2, r2, q2⟩ => ⟨x :: xs, H2, I2, .cons r1 r2, q2⟩

/-- a tuple, a list of written items -/
def tTup (t : TA) : TE := fun σ H Q => t σ H fun xs H1 => xs.length ≤ sizeLine ∧ ∀ p, H1 p = none → Q (.ref p) (upd H1 p (.tup xs))
def tLst (t : TA) : TE := fun σ H Q => t σ H fun xs H1 => xs.length ≤ sizeLine ∧ ∀ p, H1 p = none → Q (.ref p) (upd H1 p (.lst xs))
theorem pe_tup {x1} (h : PA X es t) : PE X (.Tuple es x1 pos) (tTup t) := by
  intro pins s σ H Q I hq
  refine wpAny_Tuple_spliced (thn (h pos pins s σ H _ I hq) fun us s1 ⟨xs, H1, I1, r, z, q⟩ => ⟨by rw [← r.length]; exact z, ?_⟩)
  have hf : H1 s1.heap.objs.size = none := I1.hok.fresh (Nat.le_refl _)
  refine ⟨.ref s1.heap.objs.size, upd H1 s1.heap.objs.size (.tup xs), I1.laid (t' := s1.toks) (fun b u e => Heap.get?_push_of_some _ e) (Nat.le_refl _) ?_, rfl, q _ hf⟩
  exact ⟨z, us, r, ⟨_, Heap.get?_push_size _ rfl, rfl, _, rfl⟩⟩
theorem pe_lst (h : PA X es t) : PE X (.List es pos) (tLst t) := by
  intro pins s σ H Q I hq
  refine wpAny_List_spliced (thn (h pos pins s σ H _ I hq) fun us s1 ⟨xs, H1, I1, r, z, q⟩ => ⟨by rw [← r.length]; exact z, ?_⟩)
  have hf : H1 s1.heap.objs.size = none := I1.hok.fresh (Nat.le_refl _)
  refine ⟨.ref s1.heap.objs.size, upd H1 s1.heap.objs.size (.lst xs), I1.laid (t' := s1.toks) (fun b u e => Heap.get?_push_of_some _ e) (Nat.le_refl _) ?_, rfl, q _ hf⟩
  exact ⟨z, us, 0, r, Heap.get?_push_size _ rfl⟩
end

/-! ### what a def promises -/
/-- a def's promise: the bound arguments in the parameters' order, the heap, the wanted end, the wanted exception -/
abbrev Sp := List V → Hp → VK → XK → Prop
/-- how an exception lies behind a call (file 08 gives it): the callers' frames, abstract heap and state ahead of the call, the wish, the exception, the state -/
abbrev CXT := List Env → Hp → Shared → XK → Value → Shared → Prop

/-- the state at a call -/
structure Env0 (P : Program) (w : World) (K : PySem.W.Frag) (mg : Str → Option Value) (base : Heap) (A : Around) (outer : List Env) (s : Shared) (H : Hp) : Prop where
  frames : A.frames = some outer
  mod : Mod K mg base
  bs : ∀ b o, base.get? b = some o → s.heap.get? b = some o ∧ H b = none
  bsz : base.objs.size ≤ s.heap.objs.size
  funs : s.heap.FunFrames base outer
  frf : ∀ b ∈ frs outer, H b = none
  hok : HOk P w H s.heap
  bare : AllBare s.gens
/-- a call's end -/
def CE (outer : List Env) (P : Program) (w : World) (H : Hp) (s : Shared) (Q : VK) (u : Value) (s' : Shared) : Prop :=
  ∃ v H', s'.os = s.os ∧ AllBare s'.gens ∧ Un (frs outer) [] H H' s.heap s'.heap ∧ HOk P w H' s'.heap ∧ RelV v u ∧ Q v H'
def CR (CX : CXT) (outer : List Env) (P : Program) (w : World) (H : Hp) (s : Shared) (Q : VK) (E : XK) (r : Result) (s' : Shared) : Prop :=
  match r with
  | .ok (.ret u) => CE outer P w H s Q u s'
  | .ok _ => False
  | .error e => CX outer H s E e s'
structure FnOk (P : Program) (w : World) (K : PySem.W.Frag) (mg : Str → Option Value) (base : Heap) (CX : CXT) (k : Nat) (f : Addr) (fd : FuncData) (ps : List Str) (sp : Sp) : Prop where
  len : ∀ vs H Q E, sp vs H Q E → vs.length = ps.length
  run : ∀ (A : Around) (outer : List Env) (s : Shared) (H : Hp) (args : Args) (us : List Value) (vs : List V) (Q : VK) (E : XK), Room k A → Env0 P w K mg base A outer s H → BindsTo s fd args (ps.zip us) → Vals vs us → sp vs H Q E →
    codeAny (model P w) A (.call (.ref f) args) (CR CX outer P w H s Q E) s
theorem FnOk.mono {P : Program} {w : World} {K : PySem.W.Frag} {mg : Str → Option Value} {base : Heap} {CX : CXT} {j k : Nat} {f : Addr} {fd : FuncData} {ps : List Str} {sp : Sp} (F : FnOk P w K mg base CX j f fd ps sp) (h : j ≤ k) :
    FnOk P w K mg base CX k f fd ps sp := ⟨F.len, fun A outer s H args us vs Q E hr => F.run A outer s H args us vs Q E (hr.mono h)⟩
/-- a weaker promise -/
theorem FnOk.imp {P : Program} {w : World} {K : PySem.W.Frag} {mg : Str → Option Value} {base : Heap} {CX : CXT} {k : Nat} {f : Addr} {fd : FuncData} {ps : List Str} {sp sp' : Sp} (F : FnOk P w K mg base CX k f fd ps sp)
    (h : ∀ vs H Q E, sp' vs H Q E → sp vs H Q E) : FnOk P w K mg base CX k f fd ps sp' :=
  ⟨fun vs H Q E q => F.len vs H Q E (h _ _ _ _ q), fun A outer s H args us vs Q E hr he hb hv hs => F.run A outer s H args us vs Q E hr he hb hv (h _ _ _ _ hs)⟩

theorem Env0.make {P : Program} {w : World} {K : PySem.W.Frag} {mg : Str → Option Value} {base : Heap} {A : Around} {outer : List Env} {s : Shared} {H : Hp} (e : Env0 P w K mg base A outer s H) (C : Addr) (us : List Value) (kw : List (Str × Value)) :
    Env0 P w K mg base (A.under (.builtin "type.__call__" ⟨.ref C :: us, kw⟩)) outer s H := ⟨by first | exact e.frames | (simpa [Around.under, Code.envs, Code.isFrame, pushEnvs] using e.frames), e.mod, e.bs, e.bsz, e.funs, e.frf, e.hok, e.bare⟩
theorem Env0.in1 {P : Program} {w : World} {K : PySem.W.Frag} {mg : Str → Option Value} {base : Heap} {A : Around} {outer : List Env} {s : Shared} {H : Hp} (e : Env0 P w K mg base A outer s H) :
    Env0 P w K mg base A.in1 outer s H := ⟨e.frames, e.mod, e.bs, e.bsz, e.funs, e.frf, e.hok, e.bare⟩

section
variable {X : Cx} {pins : List (Addr × Obj)} {σ : St} {H : Hp} {s s' : Shared}
/-- from a body: what a callee wants -/
theorem Inv.env0 (I : Inv X pins σ H s) : Env0 X.prog X.w X.K X.mg X.base X.A X.stack s H :=
  ⟨I.ok.frames, I.ok.mod, I.bs, Nat.le_trans I.ok.bsz I.sz, I.stack, I.stkFree, I.hok, I.bare⟩
/-- behind a call -/
theorem Inv.after {Q : VK} {u : Value} (I : Inv X pins σ H s) (h : CE X.stack X.prog X.w H s Q u s') : EP X pins σ Q u s' := by
  obtain ⟨v, H', os, bare, un, hok, r, q⟩ := h
  obtain ⟨hh, g, d, t, os'⟩ := s'
  obtain rfl : os' = s.os := os
  exact ⟨v, H', I.call (h' := hh) (g' := g) (d' := d) (t' := t) (ch := []) un hok bare (fun b z => absurd z (by simp)), r, q⟩
end

/-! ### calls -/
/-- f(..): the written arguments, then the defaults dvs; E: what is wanted of an exception -/
def tCall (sp : Sp) (dvs : List V) (E : XK) (t : TA) : TE := fun σ H Q => t σ H fun vs H1 => sp (vs ++ dvs) H1 Q E
/-- o.m(..) of an instance of the class at C -/
def tMeth (C : Addr) (m : Str) (sp : Sp) (dvs : List V) (E : XK) (ta : TE) (t : TA) : TE := fun σ H Q => ta σ H fun x H1 => ∃ a dx fs, x = .ref a ∧ H1 a = some (.ins C dx fs) ∧ fs.lookup m = none ∧
  t σ H1 fun vs H2 => sp (x :: (vs ++ dvs)) H2 Q E
/-- C(..): a new instance and its dict, then __init__ -/
def tMake (C : Addr) (sp : Sp) (dvs : List V) (E : XK) (t : TA) : TE := fun σ H Q => t σ H fun vs H1 => ∀ x dx, H1 x = none → H1 dx = none → dx ≠ x →
  sp (.ref x :: (vs ++ dvs)) (upd (upd H1 dx (.own x)) x (.ins C dx [])) (fun v H2 => v = .non ∧ Q (.ref x) H2) E

/-- how the parameters are bound: us the positional arguments, kw the keywords' values by name, ds the defaults that fill up -/
def Binds (K : PySem.W.Frag) (fd : FuncData) (ps : List Str) (ds : List Value) : Prop :=
  ∀ (s : Shared) (us : List Value), K.In s.heap → (us ++ ds).length = ps.length → BindsTo s fd ⟨us, []⟩ (ps.zip (us ++ ds))
/-- every parameter is given -/
theorem Binds.all {K : PySem.W.Frag} {fd : FuncData} {ps : List Str} (h : ∀ us : List Value, us.length = ps.length → bindArgs fd ⟨us, []⟩ = pure (ps.zip us)) : Binds K fd ps [] := fun s us _ hl => by
  rw [List.append_nil] at hl ⊢
  exact .of_eq (h us hl)

/-- an exception of a callee reaches what this body wants of exceptions -/
def Passes (CX : CXT) (X : Cx) (E : XK) : Prop := ∀ (pins : List (Addr × Obj)) (σ : St) (H : Hp) (s : Shared) (e : Value) (s' : Shared), Inv X pins σ H s → CX X.stack H s E e s' → X.xe e s'

section
variable {X : Cx} {CX : CXT} {k : Nat} {f C : Addr} {fd : FuncData} {ps : List Str} {sp : Sp} {dvs : List V} {ds : List Value} {E : XK} {x m : Str} {p pos apos : Pos} {e o : Expr} {es : List Expr} {ta : TE} {t : TA}

/-- the callee runs -/
theorem run_fn {pins : List (Addr × Obj)} {σ : St} {H : Hp} {s : Shared} {Q : VK} {us : List Value} {vs : List V} (F : FnOk X.prog X.w X.K X.mg X.base CX k f fd ps sp) (hr : Room k X.A) (hb : Binds X.K fd ps ds) (hd : Vals dvs ds) (hx : Passes CX X E)
    (I : Inv X pins σ H s) (r : Vals vs us) (h : sp (vs ++ dvs) H Q E) : wpAny (model X.prog X.w) X.A (call (.ref f) us) (EP X pins σ Q) X.xe s := by
  have r2 : Vals (vs ++ dvs) (us ++ ds) := r.append hd
  have hl : (us ++ ds).length = ps.length := by rw [← r2.length]; exact F.len _ _ _ _ h
  refine wpAny_call (codeAny_mono (F.run X.A X.stack s H ⟨us, []⟩ (us ++ ds) (vs ++ dvs) Q E hr I.env0 (hb s us I.kIn hl) r2 h) fun r s' hq => ?_)
  cases r with
  | error e => exact hx pins σ H s e s' I hq
  | ok fl =>
    cases fl with
    | ret u => exact I.after hq
    | next => exact False.elim hq
    | brk => exact False.elim hq
    | cont => exact False.elim hq

theorem pe_call (F : FnOk X.prog X.w X.K X.mg X.base CX k f fd ps sp) (hr : Room k X.A) (hg : Gl X x) (hm : X.mg x = some (.ref f)) (hk : PySem.W.keepIn X.K (.ref f) = true) (hb : Binds X.K fd ps ds) (hd : Vals dvs ds) (hx : Passes CX X E)
    (ha : PA X (e :: es) t) (hdb : (x == ("__debug__" : Str)) = false := by decide) (he : starEach (e :: es) X.env = (false, eval e X.env) :: starEach es X.env := by rfl) (hpl : (backTo pos (starEach es X.env)).any (·.1) = false := by rfl) :
    PE X (.Call (.Name x p) (e :: es) [] pos) (tCall sp dvs E t) := by
  intro pins s σ H Q I h
  refine wpAny_Call_Name_kw (ld_glob I hg hm ?_ hdb)
  refine PySem.W.callWith_K (h₀ := X.base) I.ok.mod.kin hk (thn (ha pos pins s σ H _ I h) fun us s1 ⟨vs, H1, I1, r, q⟩ => ⟨I1.kIn, ?_⟩) he hpl
  exact run_fn F hr hb hd hx I1 r q
/-- o.m(e, ..) -/
theorem pe_meth {pl : Sem Bool} (he : PE X o ta) (c : Cls X.K C) (hm : Meth X.K C m f) (F : FnOk X.prog X.w X.K X.mg X.base CX k f fd ps sp) (hr : Room k X.A) (hb : Binds X.K fd ps ds) (hd : Vals dvs ds) (hx : Passes CX X E) (ha : PA X (e :: es) t)
    (hst : starEach (e :: es) X.env = (false, eval e X.env) :: starEach es X.env := by rfl) (hpl : (backTo pos (starEach es X.env)).any (·.1) = false := by rfl)
    (ht : eval (.Call (.Attribute o m apos) (e :: es) [] pos) X.env = (do
      let ov ← eval o X.env
      standAt apos.atName
      let (f, first) ← holding [ov] (getMethod ov m pl)
      callWith pos f first (backTo pos (starEach (e :: es) X.env)) (backToKw pos (keywordEach [] X.env))) := by rfl) :
    PE X (.Call (.Attribute o m apos) (e :: es) [] pos) (tMeth C m sp dvs E ta t) := by
  intro pins s σ H Q I h
  refine PySem.W.methodCall_KW (pl := pl) (thn (he pins s σ H _ I h) fun u s1 ⟨x, H1, I1, rx, a, dx, fs, ex, ea, l, q⟩ => ?_) ht
  subst ex
  obtain rfl : u = Value.ref a := rx
  refine getmeth_ok I1 ea c hm l ?_
  refine PySem.W.callWith_K (first := [.ref a]) (h₀ := X.base) I.ok.mod.kin hm.kp (thn (ha pos pins s1 σ H1 _ I1 q) fun us s2 ⟨vs, H2, I2, r, q2⟩ => ⟨I2.kIn, ?_⟩) hst hpl
  exact run_fn (us := .ref a :: us) (vs := .ref a :: vs) F hr hb hd hx I2 (.cons rfl r) q2
/-- o.m() -/
theorem pe_meth0 {pl : Sem Bool} (he : PE X o ta) (c : Cls X.K C) (hm : Meth X.K C m f) (F : FnOk X.prog X.w X.K X.mg X.base CX k f fd ps sp) (hr : Room k X.A) (hb : Binds X.K fd ps ds) (hd : Vals dvs ds) (hx : Passes CX X E)
    (ht : eval (.Call (.Attribute o m apos) [] [] pos) X.env = (do
      let ov ← eval o X.env
      standAt apos.atName
      let (f, first) ← holding [ov] (getMethod ov m pl)
      callWith pos f first (backTo pos (starEach [] X.env)) (backToKw pos (keywordEach [] X.env))) := by rfl) :
    PE X (.Call (.Attribute o m apos) [] [] pos) (tMeth C m sp dvs E ta tNil) := by
  intro pins s σ H Q I h
  refine PySem.W.methodCall_KW (pl := pl) (thn (he pins s σ H _ I h) fun u s1 ⟨x, H1, I1, rx, a, dx, fs, ex, ea, l, q⟩ => ?_) ht
  subst ex
  obtain rfl : u = Value.ref a := rx
  refine getmeth_ok I1 ea c hm l ?_
  exact PySem.W.callWith_K0 (first := [.ref a]) I1.kIn hm.kp (run_fn (us := [.ref a]) (vs := [.ref a]) F hr hb hd hx I1 (.cons rfl .nil) q)

/-- what a class must have to be made -/
structure Mk (K : PySem.W.Frag) (C f : Addr) : Prop where
  makes : PySem.W.makesIn K C = true
  init : PySem.W.findIn K (.ref C) "__init__" = some (some (.ref f))
  fn : PySem.W.isFn K (.ref f) = true
  kp : PySem.W.keepIn K (.ref C) = true

theorem run_make {pins : List (Addr × Obj)} {σ : St} {H : Hp} {s : Shared} {Q : VK} {us : List Value} {vs : List V} (M : Mk X.K C f) (F : FnOk X.prog X.w X.K X.mg X.base CX k f fd ps sp) (hr : Room (k + 1) X.A) (hb : Binds X.K fd ps ds) (hd : Vals dvs ds)
    (hx : Passes CX X E) (I : Inv X pins σ H s) (r : Vals vs us)
    (h : ∀ x dx, H x = none → H dx = none → dx ≠ x → sp (.ref x :: (vs ++ dvs)) (upd (upd H dx (.own x)) x (.ins C dx [])) (fun v H2 => v = .non ∧ Q (.ref x) H2) E) :
    wpAny (model X.prog X.w) X.A (call (.ref C) us) (EP X pins σ Q) X.xe s := by
  have hq := h (s.heap.objs.size + 1) s.heap.objs.size (I.hok.fresh (Nat.le_succ _)) (I.hok.fresh (Nat.le_refl _)) (Nat.ne_of_lt (Nat.lt_succ_self _))
  have I2 := Inv.made (C := C) I
  have r2 : Vals (V.ref (s.heap.objs.size + 1) :: (vs ++ dvs)) (Value.ref (s.heap.objs.size + 1) :: (us ++ ds)) := .cons rfl (r.append hd)
  have hl : (Value.ref (s.heap.objs.size + 1) :: us ++ ds).length = ps.length := by
    have e := r2.length
    rw [F.len _ _ _ _ hq] at e
    exact e.symm
  refine wpAny_call (make_map (f := f) I.kIn M.makes M.init (beq_iff_eq.mp M.fn) (codeAny_mono (F.run _ X.stack _ _ ⟨Value.ref (s.heap.objs.size + 1) :: us, []⟩ (Value.ref (s.heap.objs.size + 1) :: (us ++ ds)) _ _ E (hr.make C us [])
    (I2.env0.make C us []) (hb _ (Value.ref (s.heap.objs.size + 1) :: us) I2.kIn hl) r2 hq) fun r s' hq' => ?_))
  cases r with
  | error e => exact hx pins σ _ _ e s' I2 hq'
  | ok fl =>
    cases fl with
    | ret u =>
      obtain ⟨v, H', I3, rv, ev, q3⟩ := I2.after hq'
      subst ev
      exact ⟨rv, ⟨V.ref (s.heap.objs.size + 1), H', I3, rfl, q3⟩⟩
    | next => exact False.elim hq'
    | brk => exact False.elim hq'
    | cont => exact False.elim hq'
theorem pe_make (M : Mk X.K C f) (F : FnOk X.prog X.w X.K X.mg X.base CX k f fd ps sp) (hr : Room (k + 1) X.A) (hg : Gl X x) (hm : X.mg x = some (.ref C)) (hb : Binds X.K fd ps ds) (hd : Vals dvs ds) (hx : Passes CX X E)
    (ha : PA X (e :: es) t) (hdb : (x == ("__debug__" : Str)) = false := by decide) (he : starEach (e :: es) X.env = (false, eval e X.env) :: starEach es X.env := by rfl) (hpl : (backTo pos (starEach es X.env)).any (·.1) = false := by rfl) :
    PE X (.Call (.Name x p) (e :: es) [] pos) (tMake C sp dvs E t) := by
  intro pins s σ H Q I h
  refine wpAny_Call_Name_kw (ld_glob I hg hm ?_ hdb)
  refine PySem.W.callWith_K (h₀ := X.base) I.ok.mod.kin M.kp (thn (ha pos pins s σ H _ I h) fun us s1 ⟨vs, H1, I1, r, q⟩ => ⟨I1.kIn, ?_⟩) he hpl
  exact run_make M F hr hb hd hx I1 r q
end

/-! ### keywords -/
/-- the values of the keywords, from the left -/
def PK (X : Cx) (kws : List Keyword) (t : TA) : Prop :=
  ∀ (pos : Pos) (pins : List (Addr × Obj)) (s : Shared) (σ : St) (H : Hp) (Q : List V → Hp → Prop), Inv X pins σ H s → t σ H Q → wpAny (model X.prog X.w) X.A (evalAll ((backToKw pos (keywordEach kws X.env)).map (·.2))) (AP X pins σ Q) X.xe s
section
variable {X : Cx} {CX : CXT} {k : Nat} {f C : Addr} {fd : FuncData} {ps ks : List Str} {sp : Sp} {E : XK} {x m : Str} {p pos apos kpos : Pos} {e o : Expr} {es : List Expr} {kws : List Keyword} {te ta : TE} {t tk : TA} {nm : Option Str}
theorem pk_nil : PK X [] tNil := fun _ _ _ _ H Q I h => wpAny_evalAll_nil ⟨[], H, I, .nil, h⟩
theorem pk_cons (ha : PE X e te) (hr : PK X kws t) : PK X (⟨nm, e, kpos⟩ :: kws) (tCons te t) := by
  intro pos pins s σ H Q I h
  show wpAny _ _ (evalAll ((do let v ← eval e X.env; standAt pos; pure v) :: (backToKw pos (keywordEach kws X.env)).map (·.2))) _ _ s
  refine wpAny_evalAll_cons (wpAny_bind (thn (ha pins s σ H _ I h) fun u s1 ⟨x, H1, I1, r1, q1⟩ => wpAny_bind (wpAny_standAt (wpAny_pure ?_))))
  exact thn (hr pos pins s1 σ H1 _ I1 q1) fun us s2 ⟨xs, H2, I2, r2, q2⟩ => ⟨x :: xs, H2, I2, .cons r1 r2, q2⟩

/-- how a call with keywords binds: g puts the positional values us and the keywords' values ws (names ks) in the parameters' order, defaults among them -/
structure KBinds (K : PySem.W.Frag) (fd : FuncData) (ps ks : List Str) (g : List Value → List Value → List Value) (gV : List V → List V → List V) : Prop where
  to : ∀ (s : Shared) (us ws : List Value), K.In s.heap → (g us ws).length = ps.length → BindsTo s fd ⟨us, ks.zip ws⟩ (ps.zip (g us ws))
  rel : ∀ {vs : List V} {us : List Value} {zs : List V} {ws : List Value}, Vals vs us → Vals zs ws → Vals (gV vs zs) (g us ws)
def tCallK (sp : Sp) (gV : List V → List V → List V) (E : XK) (t tk : TA) : TE := fun σ H Q => t σ H fun vs H1 => tk σ H1 fun zs H2 => sp (gV vs zs) H2 Q E
variable {g : List Value → List Value → List Value} {gV : List V → List V → List V}
theorem run_fnk {pins : List (Addr × Obj)} {σ : St} {H : Hp} {s : Shared} {Q : VK} {us ws : List Value} {vs zs : List V} (F : FnOk X.prog X.w X.K X.mg X.base CX k f fd ps sp) (hr : Room k X.A) (hb : KBinds X.K fd ps ks g gV) (hx : Passes CX X E)
    (I : Inv X pins σ H s) (r : Vals vs us) (rz : Vals zs ws) (h : sp (gV vs zs) H Q E) : wpAny (model X.prog X.w) X.A (call (.ref f) us (ks.zip ws)) (EP X pins σ Q) X.xe s := by
  have r2 := hb.rel r rz
  have hl : (g us ws).length = ps.length := by rw [← r2.length]; exact F.len _ _ _ _ h
  refine wpAny_call (codeAny_mono (F.run X.A X.stack s H ⟨us, ks.zip ws⟩ (g us ws) (gV vs zs) Q E hr I.env0 (hb.to s us ws I.kIn hl) r2 h) fun r s' hq => ?_)
  cases r with
  | error e => exact hx pins σ H s e s' I hq
  | ok fl =>
    cases fl with
    | ret u => exact I.after hq
    | next => exact False.elim hq
    | brk => exact False.elim hq
    | cont => exact False.elim hq
/-- f(e, .., k = v, ..) -/
theorem pe_callK (F : FnOk X.prog X.w X.K X.mg X.base CX k f fd ps sp) (hr : Room k X.A) (hg : Gl X x) (hm : X.mg x = some (.ref f)) (hk : PySem.W.keepIn X.K (.ref f) = true) (hb : KBinds X.K fd ps ks g gV) (hx : Passes CX X E)
    (ha : PA X (e :: es) t) (hkw : PK X kws tk) (hall : (backToKw pos (keywordEach kws X.env)).all (·.1.isSome) = true := by rfl) (hks : (backToKw pos (keywordEach kws X.env)).filterMap (·.1) = ks := by rfl)
    (hdb : (x == ("__debug__" : Str)) = false := by decide) (he : starEach (e :: es) X.env = (false, eval e X.env) :: starEach es X.env := by rfl)
    (hpl : ((backTo pos (starEach (e :: es) X.env)).any (·.1) || (backToKw pos (keywordEach kws X.env)).any (·.1.isNone)) = false := by rfl) :
    PE X (.Call (.Name x p) (e :: es) kws pos) (tCallK sp gV E t tk) := by
  intro pins s σ H Q I h
  refine wpAny_Call_Name_kw (ld_glob I hg hm ?_ hdb)
  refine PySem.W.callWith_KW (h₀ := X.base) I.ok.mod.kin hk hall (thn (ha pos pins s σ H _ I h) fun us s1 ⟨vs, H1, I1, r, q⟩ => ?_) hpl he
  refine thn (hkw pos pins s1 σ H1 _ I1 q) fun ws s2 ⟨zs, H2, I2, rz, q2⟩ => ⟨I2.kIn, ?_⟩
  rw [hks]
  exact run_fnk F hr hb hx I2 r rz q2
end

/-! ### a def's body keeps its promise -/
/-- names: the parameters first -/
structure FnScope (N P : List Str) (sc : Scope) : Prop where
  kind : sc.kind = .function
  co : sc.isCoroutine = false
  gen : sc.isGenerator = false
  nd : N.Nodup
  pre : N.take P.length = P
  par : ∀ x ∈ P, sc.names.lookup x = some .local ∨ sc.names.lookup x = some .cell
  nofree : ∀ y ∈ sc.names, y.2 ≠ .free

theorem bindL_out {kindOf : Str → Option NameKind} {x : Str} : ∀ {binds : List (Str × Value)} {m : Str → Option Value}, (∀ v, (x, v) ∉ binds) → bindL kindOf binds m x = m x
  | [], _, _ => rfl
  | (n, v) :: r, m, h => by
    unfold bindL
    rw [bindL_out fun w hw => h w (List.mem_cons_of_mem _ hw)]
    split
    · have : x ≠ n := by rintro rfl; exact h v List.mem_cons_self
      simp [this]
    · rfl
theorem bindC_out {kindOf : Str → Option NameKind} {x : Str} : ∀ {binds : List (Str × Value)} {m : Str → Option Value}, (∀ v, (x, v) ∉ binds) → bindC kindOf binds m x = m x
  | [], _, _ => rfl
  | (n, v) :: r, m, h => by
    unfold bindC
    rw [bindC_out fun w hw => h w (List.mem_cons_of_mem _ hw)]
    split
    · rfl
    · have : x ≠ n := by rintro rfl; exact h v List.mem_cons_self
      simp [this]
theorem bindL_get {kindOf : Str → Option NameKind} {x : Str} {v : Value} : ∀ {P : List Str} {vs : List Value} {i : Nat} {m : Str → Option Value}, P.Nodup → P[i]? = some x → vs[i]? = some v → kindOf x = some .local →
    bindL kindOf (P.zip vs) m x = some v
  | [], _, _, _, _, h, _, _ => by simp at h
  | _ :: _, [], _, _, _, _, h, _ => by simp at h
  | p :: P, w :: vs, 0, m, nd, h1, h2, hk => by
    simp at h1 h2; subst h1; subst h2
    show bindL kindOf ((p, w) :: P.zip vs) m p = _
    unfold bindL
    rw [bindL_out fun v hv => (List.nodup_cons.mp nd).1 (List.of_mem_zip hv).1, if_pos hk]
    simp
  | p :: P, w :: vs, i + 1, m, nd, h1, h2, hk => by
    show bindL kindOf ((p, w) :: P.zip vs) m x = _
    unfold bindL
    exact bindL_get (i := i) (List.nodup_cons.mp nd).2 (by simpa using h1) (by simpa using h2) hk
theorem bindC_get {kindOf : Str → Option NameKind} {x : Str} {v : Value} : ∀ {P : List Str} {vs : List Value} {i : Nat} {m : Str → Option Value}, P.Nodup → P[i]? = some x → vs[i]? = some v → kindOf x ≠ some .local →
    bindC kindOf (P.zip vs) m x = some v
  | [], _, _, _, _, h, _, _ => by simp at h
  | _ :: _, [], _, _, _, _, h, _ => by simp at h
  | p :: P, w :: vs, 0, m, nd, h1, h2, hk => by
    simp at h1 h2; subst h1; subst h2
    show bindC kindOf ((p, w) :: P.zip vs) m p = _
    unfold bindC
    rw [bindC_out fun v hv => (List.nodup_cons.mp nd).1 (List.of_mem_zip hv).1, if_neg hk]
    simp
  | p :: P, w :: vs, i + 1, m, nd, h1, h2, hk => by
    show bindC kindOf ((p, w) :: P.zip vs) m x = _
    unfold bindC
    exact bindC_get (i := i) (List.nodup_cons.mp nd).2 (by simpa using h1) (by simpa using h2) hk

/-- the names' values at the entry -/
def start (N : List Str) (vs : List V) : St := vs.map some ++ List.replicate (N.length - vs.length) none

/-- the context of a def's body, at its entry; an exception leaves the frame, then lies as CX says -/
def cxOf (CX : CXT) (P : Program) (w : World) (K : PySem.W.Frag) (mg : Str → Option Value) (base : Heap) (N : List Str) (qual : Str) (scope : Scope) (f : Addr) (cd : Value) (A : Around) (outer : List Env) (s : Shared) (H : Hp) (E : XK) : Cx where
  prog := P
  w := w
  K := K
  mg := mg
  base := base
  A := A.deeper (envOfC qual scope s.heap.objs.size f cd)
  N := N
  s₀ := s
  H₀ := H
  env := envOfC qual scope s.heap.objs.size f cd
  outer := outer
  stack := envOfC qual scope s.heap.objs.size f cd :: outer
  ex := []
  calm := true
  fn := fun _ => true
  pn := []
  xe := fun e s' => wpAny (model P w) (A.deeper (envOfC qual scope s.heap.objs.size f cd)) (leaving (envOfC qual scope s.heap.objs.size f cd) e) (fun _ s'' => CX outer H s E e s'') (fun e' s'' => CX outer H s E e' s'') s'

theorem cell_has {sc : Scope} {n : Nat} {x : Str} (h : sc.names.lookup x = some .cell) : ∃ c, (cellsFrom n sc.names []).lookup x = some c := by
  have q := PySem.W.cellsFrom_some sc.names n [] (.inl h)
  exact Option.isSome_iff_exists.mp q

theorem inv_start {CX : CXT} {P : Program} {w : World} {K : PySem.W.Frag} {mg : Str → Option Value} {base : Heap} {N ps : List Str} {qual : Str} {scope : Scope} {f : Addr} {cd : Value} {A : Around} {outer : List Env} {s s1 : Shared} {H : Hp} {E : XK} {us : List Value} {vs : List V}
    (S : FnScope N ps scope) (hd : A.handled = none) (e0 : Env0 P w K mg base A outer s H) (hl : vs.length = ps.length) (r : Vals vs us)
    (x : InCallC s s.heap.objs.size (bindL (envOfC qual scope s.heap.objs.size f cd).kindOf (ps.zip us) fun _ => none) (cellsFrom (s.heap.objs.size + 1) scope.names []) (bindC (envOfC qual scope s.heap.objs.size f cd).kindOf (ps.zip us) fun _ => none) s1) :
    Inv (cxOf CX P w K mg base N qual scope f cd A outer s H E) [] (start N vs) H s1 := by
  have hpl : ps.length ≤ N.length := by have := congrArg List.length S.pre; rw [List.length_take] at this; omega
  obtain ⟨h1, tk, rfl, hk⟩ := x.done
  have noA : ∀ b : Addr, b ∉ (cxOf CX P w K mg base N qual scope f cd A outer s H E).ex := fun b z => absurd (show b ∈ ([] : List Addr) from z) (by simp)
  refine ⟨⟨e0.mod, S.kind, rfl, rfl, Nat.le_refl _, fun y z c h1 h2 => ?_, fun y hy => ?_, fun y c _ h => ?_, fun _ => hd, Around.frames_deeper e0.frames, .inr ⟨rfl, rfl⟩, fun b z => absurd z (noA b), e0.bs, e0.bsz, fun b _ _ => noA b, fun b z => absurd z (noA b), e0.funs, e0.frf⟩,
    rfl, e0.bare, Un.kept hk, ⟨_, x.toInCall.ns, fun i y v h1 h2 h3 => ?_⟩, fun y c h => ⟨_, x.cell y c h⟩, e0.hok.fresh (Nat.le_refl _), fun y c h => ?_, fun p hp => absurd (show p ∈ ([] : List (Addr × Obj)) from hp) (by simp), e0.hok.kept hk, ?_⟩
  · exact name_of_addr x.apart (PySem.mem_of_lookup h1) (PySem.mem_of_lookup h2)
  · have hy : scope.names.lookup y = some .cell ∨ scope.names.lookup y = some .free := hy
    rcases hy with hy | hy
    · exact cell_has hy
    · exact absurd rfl (S.nofree _ (PySem.mem_of_lookup hy))
  · exact Nat.le_of_lt (x.above y c (PySem.mem_of_lookup h))
  · have hi : i < vs.length := by
      unfold start at h2
      by_cases hi : i < vs.length
      · exact hi
      · rw [List.getElem?_append_right (by simpa using hi)] at h2
        rw [List.getElem?_replicate] at h2
        split at h2 <;> cases h2
    have ha : vs[i]? = some v := by
      unfold start at h2
      rw [List.getElem?_append_left (by simpa using hi), List.getElem?_map] at h2
      cases e : vs[i]? with
      | none => rw [e] at h2; cases h2
      | some a => rw [e] at h2; cases h2; rfl
    obtain ⟨u, hu, rv⟩ := r.get ha
    have hp : ps[i]? = some y := by
      rw [← S.pre, List.getElem?_take_of_lt (by omega)]; exact h1
    have ndP : ps.Nodup := by rw [← S.pre]; exact S.nd.sublist (List.take_sublist _ _)
    refine ⟨u, rv, ?_⟩
    rcases S.par y (List.mem_of_getElem? hp) with k | k
    · exact .inl ⟨k, bindL_get ndP hp hu k⟩
    · obtain ⟨c, e⟩ := cell_has (n := s.heap.objs.size + 1) k
      refine .inr ⟨.inl k, c, e, ?_⟩
      have q := x.cell y c e
      rw [bindC_get ndP hp hu (by show scope.names.lookup y ≠ _; rw [k]; decide)] at q
      exact q
  · exact e0.hok.fresh (Nat.le_of_lt (x.above y c (PySem.mem_of_lookup h)))
  · unfold start
    show _ = N.length
    rw [List.length_append, List.length_map, List.length_replicate]
    omega

/-- THE RULE: a def (or a method) of the text, by its body. The body's reading t is chosen for each entry; it is run at the parameters' values -/
theorem fn_of {CX : CXT} {P : Program} {w : World} {K : PySem.W.Frag} {mg : Str → Option Value} {base : Heap} {k : Nat} {f : Addr} {name qual : Str} {params : Arguments} {body : List Stmt} {scope : Scope} {dV kV doc pm cdv ct oc : Value} {an od : Option Addr}
    {osl : Array (Option Value)} {N ps : List Str} {sp : Sp} (lk : K.lookup f = some ⟨oc, od, .func (PySem.W.fnOf name qual params body scope dV kV doc pm an cdv ct), osl⟩) (hcd : PySem.W.codeIn K cdv qual = true) (S : FnScope N ps scope)
    (len : ∀ vs H Q E, sp vs H Q E → vs.length = ps.length)
    (hbody : ∀ (A : Around) (outer : List Env) (s : Shared) (H : Hp) (vs : List V) (Q : VK) (E : XK), Room k (A.deeper (envOfC qual scope s.heap.objs.size f cdv)) → sp vs H Q E →
      ∃ t, PSs (cxOf CX P w K mg base N qual scope f cdv A outer s H E) body t ∧ t { nx := fun _ H' => Q .non H', rt := Q } (start N vs) H) :
    FnOk P w K mg base CX (k + 1) f (PySem.W.fnOf name qual params body scope dV kV doc pm an cdv ct) ps sp := by
  refine ⟨len, fun A outer s H args us vs Q E hr e0 hb r hsp => ?_⟩
  have hl := len _ _ _ _ hsp
  have KX : K.In s.heap := e0.mod.kin.keeps fun b o e => (e0.bs b o e).1
  have lim : s.heap.NoLimit := e0.mod.nolimit.keeps fun b o e => (e0.bs b o e).1
  have hkind : ∀ y ∈ ps.zip us, scope.names.lookup y.1 = some .local ∨ (scope.names.lookup y.1 = some .cell ∧ ((cellsFrom (s.heap.objs.size + 1) scope.names []).lookup y.1).isSome = true) := fun ⟨n, v⟩ hy => by
    rcases S.par n (List.of_mem_zip hy).1 with q | q
    · exact .inl q
    · exact .inr ⟨q, PySem.W.cellsFrom_some _ _ _ (.inl q)⟩
  refine codeAny_call_function hr.depth (KX _ _ lk) rfl S.co S.gen rfl (PySem.W.codeRec_of KX hcd) (hb _ _ _ _ ?_)
  refine wpAny_newFunctionEnv_cells S.kind hkind fun env he s1 x => ?_
  subst he
  refine ⟨lim.keeps x.toInCall.keep, codeAny_func ?_⟩
  obtain ⟨t, ht, hq⟩ := hbody A outer s H vs Q E (hr.deeper _) hsp
  have I : Inv (cxOf CX P w K mg base N qual scope f cdv A outer s H E) [] (start N vs) H s1 := inv_start S hr.hd e0 hl r x
  refine wpAny_mono (ht [] s1 (start N vs) H _ I hq) (fun fl s' hs => ?_) fun e s' hs => hs
  have fin : ∀ {σ' : St} {H' : Hp} {v : V} {u : Value}, Inv (cxOf CX P w K mg base N qual scope f cdv A outer s H E) [] σ' H' s' → RelV v u → Q v H' → CE outer P w H s Q u s' :=
    fun {σ' H' v u} J rv q => ⟨v, H', J.os, J.bare, J.base, J.hok, rv, q⟩
  cases fl with
  | ret u =>
    obtain ⟨v, σ', H', J, rv, q⟩ := hs
    exact fin J rv q
  | next =>
    obtain ⟨σ', H', J, q⟩ := hs
    exact fin (v := V.non) (u := Value.none) J rfl q
  | brk =>
    obtain ⟨_, _, _, q⟩ := hs
    exact False.elim q
  | cont =>
    obtain ⟨_, _, _, q⟩ := hs
    exact False.elim q
end L2

namespace L2
open PySem PySem.Spec PyProof.Rows
section
variable {X : Cx} {x : Str} {p pos : Pos} {e : Expr} {es : List Expr} {t : TA} {id T : String} {r : List V → Hp → VK → Prop}

def tCB (r : List V → Hp → VK → Prop) (t : TA) : TE := fun σ H Q => t σ H fun vs H1 => r vs H1 Q
/-- f(e, ..), f a built-in function -/
theorem pe_callB (hc : CallR X (.builtin id) r) (hg : Gl X x) (hm : X.mg x = none) (hv : bootBuiltins x = some (.builtin id)) (ha : PA X (e :: es) t) (hn : x ≠ "__name__" := by decide) (hdb : (x == ("__debug__" : Str)) = false := by decide)
    (he : starEach (e :: es) X.env = (false, eval e X.env) :: starEach es X.env := by rfl) (hpl : (backTo pos (starEach es X.env)).any (·.1) = false := by rfl) : PE X (.Call (.Name x p) (e :: es) [] pos) (tCB r t) := by
  intro pins s σ H Q I h
  refine wpAny_Call_Name_kw (ld_blt I hg hm hv ?_ hn hdb)
  exact PyProof.Rows.callWith_builtin1 (thn (ha pos pins s σ H _ I h) fun us s1 ⟨vs, H1, I1, r1, q1⟩ => hc pins s1 σ H1 vs us Q I1 r1 q1) he hpl
/-- T(e, ..), T a built-in type -/
theorem pe_callTy (hc : CallR X (.type T) r) (hg : Gl X x) (hm : X.mg x = none) (hv : bootBuiltins x = some (.type T)) (ha : PA X (e :: es) t) (hn : x ≠ "__name__" := by decide) (hdb : (x == ("__debug__" : Str)) = false := by decide)
    (he : starEach (e :: es) X.env = (false, eval e X.env) :: starEach es X.env := by rfl) (hpl : (backTo pos (starEach es X.env)).any (·.1) = false := by rfl) : PE X (.Call (.Name x p) (e :: es) [] pos) (tCB r t) := by
  intro pins s σ H Q I h
  refine wpAny_Call_Name_kw (ld_blt I hg hm hv ?_ hn hdb)
  exact PyProof.Rows.callWith_type1 (thn (ha pos pins s σ H _ I h) fun us s1 ⟨vs, H1, I1, r1, q1⟩ => hc pins s1 σ H1 vs us Q I1 r1 q1) he hpl
end
end L2

namespace HT
open PySem PyProof.Rows

/-- t < u of tuples of ints -/
def lexLt : List Int → List Int → Bool
  | [], [] => false
  | [], _ :: _ => true
  | _ :: _, [] => false
  | x :: xs, y :: ys => if x = y then lexLt xs ys else decide (x < y)
theorem lexLt_cons (x y : Int) (xs ys : List Int) : lexLt (x :: xs) (y :: ys) = if x = y then lexLt xs ys else decide (x < y) := rfl
section
open PySem.SeqAt
open PySem.AutoSeq1 (wpAny_loadPart')
open PySem.MeetsSeq PySem.MeetsSeq2 PySem.MeetsSeq3

end

section
variable {prog : Program} {w : World} {A : Around} {E : Value → Shared → Prop} {s : Shared}

/-! ### t[a:b], not the whole -/
/-- a slice's bound as a place among n (d where it is left out) -/
def sIx (n d : Nat) : Option Int → Nat
  | none => d
  | some v => if v < 0 then (v + (n : Int)).toNat else min v.toNat n
end
end HT

namespace L2
open PySem PySem.Spec PyProof.Rows

/-! ### the parts of a slice -/
abbrev TO := St → Hp → (Option Int → Hp → Prop) → Prop
/-- a slice's part (left out, or an int) -/
def PO (X : Cx) (e : Option Expr) (t : TO) : Prop :=
  ∀ (pins : List (Addr × Obj)) (s : Shared) (σ : St) (H : Hp) (Q : Option Int → Hp → Prop), Inv X pins σ H s → t σ H Q →
    wpAny (model X.prog X.w) X.A (evalPart e X.env) (fun u s' => ∃ o H', Inv X pins σ H' s' ∧ IsPart u o ∧ Q o H') X.xe s
def tNoPart : TO := fun _ H Q => Q none H
def tPart (t : TE) : TO := fun σ H Q => t σ H fun x H1 => ∃ i, x = .int i ∧ Q (some i) H1

theorem intsAre_of {ns : List Int} : ∀ {us : List Value}, Vals (ns.map V.int) us → IntsAre us ns := by
  induction ns with
  | nil => intro us r; rw [List.map_nil] at r; cases r; exact .nil
  | cons n ns ih =>
    intro us r
    rw [List.map_cons] at r
    cases r with
    | cons r1 r2 =>
      obtain ⟨t, e⟩ := r1
      subst e
      exact .cons n t (ih r2)

section
variable {X : Cx} {e : Expr} {te : TE} {lo hi : Option Expr} {tl th : TO} {pos p2 : Pos}

theorem po_none : PO X none tNoPart := by
  intro pins s σ H Q I h
  rw [evalPart_none]
  exact wpAny_pure ⟨none, H, I, .none, h⟩
theorem po_some (h : PE X e te) : PO X (some e) (tPart te) := by
  intro pins s σ H Q I hw
  rw [evalPart_some]
  refine thn (h pins s σ H _ I hw) fun u s1 ⟨x, H1, I1, r1, q1⟩ => ?_
  obtain ⟨i, rfl, q⟩ := q1
  obtain ⟨t, rfl⟩ := r1
  exact ⟨some i, H1, I1, .int i t, q⟩

/-- what a slice of a value is, by values: the slice object stands at sl -/
def SlR (X : Cx) (r : V → Option Int → Option Int → Hp → VK → Prop) : Prop :=
  ∀ (pins : List (Addr × Obj)) (s : Shared) (σ : St) (H : Hp) (x : V) (v vl vu : Value) (lo hi : Option Int) (sl : Addr) (Q : VK), Inv X pins σ H s → RelV x v → s.heap.IsSliceOf sl vl vu .none → IsPart vl lo → IsPart vu hi → r x lo hi H Q →
    ∃ T id, typeLookup (.type T) "__getitem__" = pure (some (.builtin id)) ∧ s.TypeIs v T ∧ wpAny (model X.prog X.w) X.A (getItem v (.ref sl)) (EP X pins σ Q) X.xe s
theorem SlR.or {r r' : V → Option Int → Option Int → Hp → VK → Prop} (h : SlR X r) (h' : SlR X r') : SlR X (fun x lo hi H Q => r x lo hi H Q ∨ r' x lo hi H Q) := by
  intro pins s σ H x v vl vu lo hi sl Q I rx hs pl pu q
  rcases q with q | q
  · exact h pins s σ H x v vl vu lo hi sl Q I rx hs pl pu q
  · exact h' pins s σ H x v vl vu lo hi sl Q I rx hs pl pu q
def tSl (r : V → Option Int → Option Int → Hp → VK → Prop) (te : TE) (tl th : TO) : TE := fun σ H Q => te σ H fun x H1 => tl σ H1 fun l H2 => th σ H2 fun u H3 => r x l u H3 Q
/-- a[lo:hi], any a -/
theorem pe_slice {r : V → Option Int → Option Int → Hp → VK → Prop} (hr : SlR X r) (he : PE X e te) (hl : PO X lo tl) (hu : PO X hi th) : PE X (.Subscript e (.Slice lo hi none p2) pos) (tSl r te tl th) := by
  intro pins s σ H Q I h
  refine Subscript_ (thn (he pins s σ H _ I h) fun v s1 ⟨x, H1, I1, r1, q1⟩ => ?_)
  refine wpAny_Slice (thn (hl pins s1 σ H1 _ I1 q1) fun vl s2 ⟨l, H2, I2, pl, q2⟩ => thn (hu pins s2 σ H2 _ I2 q2) fun vu s3 ⟨u, H3, I3, pu, q3⟩ => ?_)
  rw [evalPart_none]
  refine wpAny_pure ?_
  have I4 : Inv X pins σ H3 { s3 with heap := s3.heap.push { cls := .type "slice", data := .fields #[vl, vu, .none] } } := I3.kept (t' := s3.toks) fun b ob q => Heap.get?_push_of_some _ q
  obtain ⟨T, id, hT, ht, hg⟩ := hr pins { s3 with heap := s3.heap.push { cls := .type "slice", data := .fields #[vl, vu, .none] } } σ H3 x v vl vu l u s3.heap.objs.size Q I4 r1 (Heap.IsSliceOf.new ..) pl pu q3
  show wpAny (model X.prog X.w) X.A (subscriptTail e (.Slice lo hi none p2) v (.ref s3.heap.objs.size)) (EP X pins σ Q) X.xe { s3 with heap := s3.heap.push { cls := .type "slice", data := .fields #[vl, vu, .none] } }
  exact tail_any (ops := [.ref s3.heap.objs.size, v]) ht hT hg (by with_unfolding_all rfl)

/-- the items of xs[lo:hi] -/
def cutV (xs : List V) (lo hi : Option Int) : List V := (xs.drop (HT.sIx xs.length 0 lo)).take (HT.sIx xs.length xs.length hi - HT.sIx xs.length 0 lo)
theorem cutV_length (xs : List V) (lo hi : Option Int) : (cutV xs lo hi).length ≤ xs.length := by
  unfold cutV
  rw [List.length_take, List.length_drop]
  omega
/-! ### t < u, t + u -/
end
end L2

namespace L2
open PySem PySem.Spec PyProof.Rows

/-! ### places -/
/-- the place that an index of any sign means -/
def ixN (n : Nat) (i : Int) : Option Nat := if 0 ≤ i then (if i < n then some i.toNat else none) else if -(n : Int) ≤ i then some (i + n).toNat else none
def atI {α : Type} (xs : List α) (i : Int) : Option α := (ixN xs.length i).bind fun j => xs[j]?
theorem ixN_seq {n : Nat} {i : Int} {j : Nat} (h : ixN n i = some j) : seqIndex? i n = some j ∧ j < n ∧ -(n : Int) ≤ i ∧ i < n := by
  unfold ixN at h
  by_cases h0 : 0 ≤ i
  · rw [if_pos h0] at h
    by_cases h1 : i < n
    · rw [if_pos h1] at h
      have e : i.toNat = j := Option.some.inj h
      exact ⟨by rw [seqIndex_of h0 h1, e], by omega, by omega, h1⟩
    · rw [if_neg h1] at h; cases h
  · rw [if_neg h0] at h
    by_cases h1 : -(n : Int) ≤ i
    · rw [if_pos h1] at h
      have e : (i + n).toNat = j := Option.some.inj h
      exact ⟨by rw [seqIndex_neg (by omega) h1, e], by omega, h1, by omega⟩
    · rw [if_neg h1] at h; cases h
theorem atI_get {α : Type} {xs : List α} {i : Int} {v : α} (h : atI xs i = some v) : ∃ j, seqIndex? i xs.length = some j ∧ xs[j]? = some v ∧ j < xs.length ∧ -(xs.length : Int) ≤ i ∧ i < xs.length := by
  unfold atI at h
  cases e : ixN xs.length i with
  | none => rw [e] at h; cases h
  | some j =>
    rw [e] at h
    obtain ⟨h1, h2, h3, h4⟩ := ixN_seq e
    exact ⟨j, h1, h, h2, h3, h4⟩
/-! ### what may be subscripted -/
/-- what stands as an index of a plain subscript -/
def PlainIx (b : Expr) : Prop := ∀ o i, subscripted b false o i = operate [o, i] (getItem o i)
/-- a subscript by values -/
def IxR (X : Cx) (r : R2) : Prop :=
  ∀ (value slice : Expr) (pins : List (Addr × Obj)) (s : Shared) (σ : St) (H : Hp) (x y : V) (v u : Value) (Q : VK), Inv X pins σ H s → RelV x v → RelV y u → r x y H Q →
    subscripted slice false v u = operate [v, u] (getItem v u) → wpAny (model X.prog X.w) X.A (subscriptTail value slice v u) (EP X pins σ Q) X.xe s
/-- a call of a builtin's method by values: the receiver, the arguments -/
def MtR (X : Cx) (id : String) (r : V → List V → Hp → VK → Prop) : Prop :=
  ∀ (pins : List (Addr × Obj)) (s : Shared) (σ : St) (H : Hp) (x : V) (xs : List V) (v : Value) (us : List Value) (Q : VK), Inv X pins σ H s → RelV x v → Vals xs us → r x xs H Q →
    wpAny (model X.prog X.w) X.A (call (.builtin id) (v :: us)) (EP X pins σ Q) X.xe s
section
variable {X : Cx} {a b : Expr} {ta tb : TE} {pos : Pos}
theorem IxR.or {r r' : R2} (h : IxR X r) (h' : IxR X r') : IxR X (fun x y H Q => r x y H Q ∨ r' x y H Q) := by
  intro value slice pins s σ H x y v u Q I rx ry q hs
  rcases q with q | q
  · exact h value slice pins s σ H x y v u Q I rx ry q hs
  · exact h' value slice pins s σ H x y v u Q I rx ry q hs
theorem MtR.or {id : String} {r r' : V → List V → Hp → VK → Prop} (h : MtR X id r) (h' : MtR X id r') : MtR X id (fun x xs H Q => r x xs H Q ∨ r' x xs H Q) := by
  intro pins s σ H x xs v us Q I rx rs q
  rcases q with q | q
  · exact h pins s σ H x xs v us Q I rx rs q
  · exact h' pins s σ H x xs v us Q I rx rs q
/-- a[b] -/
theorem pe_ix {r : R2} (hr : IxR X r) (ha : PE X a ta) (hb : PE X b tb) (hs : PlainIx b) : PE X (.Subscript a b pos) (tOp r ta tb) := by
  intro pins s σ H Q I h
  exact Subscript_ (binT ha hb I h fun v u s2 x y H2 I2 rx ry q => hr a b pins s2 σ H2 x y v u Q I2 rx ry q (hs _ _))

def rIxL (K : PySem.W.Frag) : R2 := fun x y H Q => ∃ p xs i v, x = .ref p ∧ y = .int i ∧ SqL K H p xs ∧ atI xs i = some v ∧ Q v H
def rIxT (K : PySem.W.Frag) : R2 := fun x y H Q => ∃ p xs i v, x = .ref p ∧ y = .int i ∧ SqT K H p xs ∧ atI xs i = some v ∧ Q v H
theorem ix_list : IxR X (rIxL X.K) := by
  intro value slice pins s σ H x y v u Q I rx ry h hs
  obtain ⟨p, xs, i, z, rfl, rfl, hq, he, q⟩ := h
  cases rx
  obtain ⟨t, rfl⟩ := ry
  obtain ⟨its, r, pl, hz⟩ := I.list hq
  obtain ⟨j, h1, h2, h3, h4, h5⟩ := atI_get he
  obtain ⟨w, ew, rw'⟩ := r.get h2
  have hl := r.length
  have hn := line63
  have fin : EP X pins σ Q w s := ⟨z, H, I, rw', q⟩
  by_cases h0 : 0 ≤ i
  · have hj : i.toNat = j := by
      rw [seqIndex_of h0 h5] at h1
      exact Option.some.inj h1
    exact item_listR pl.isList h0 (by omega) (by rw [hj]; simpa using ew) fin hs
  · have hj : (i + (its.toArray.size : Int)).toNat = j := by
      rw [seqIndex_neg (by omega) h4] at h1
      rw [List.size_toArray, ← hl]
      exact Option.some.inj h1
    exact subscriptTail_builtinR (x := w) pl.isList.typeIs slot_list_getitem.lookup
      (wpAny_getItem_list_neg (Q := fun r s' => r = w ∧ EP X pins σ Q r s') pl.isList (by omega) (by rw [List.size_toArray] <;> omega) (by omega) (by rw [hj]; simpa using ew) ⟨rfl, fin⟩) hs
theorem ix_tup : IxR X (rIxT X.K) := by
  intro value slice pins s σ H x y v u Q I rx ry h hs
  obtain ⟨p, xs, i, z, rfl, rfl, hq, he, q⟩ := h
  cases rx
  obtain ⟨t, rfl⟩ := ry
  obtain ⟨its, r, pl, hz⟩ := I.tuple hq
  obtain ⟨j, h1, h2, h3, h4, h5⟩ := atI_get he
  obtain ⟨w, ew, rw'⟩ := r.get h2
  have hl := r.length
  have hn := line63
  have fin : EP X pins σ Q w s := ⟨z, H, I, rw', q⟩
  exact subscriptTail_builtinR (x := w) pl.typeIs slot_tuple_getitem.lookup
    (getItem_tuple (j := j) (Q := fun r s' => r = w ∧ EP X pins σ Q r s') pl (by omega) (by omega) (by rw [List.size_toArray, ← hl]; exact h1) (by simpa using ew) ⟨rfl, fin⟩) hs
/-! ### xs[i] = v, any sign -/
/-- the list's object behind a store -/
theorem mapSeq_set (its : List Value) (n j : Nat) (u : Value) : Obj.mapSeq (·.setIfInBounds j u) { cls := .type "list", data := .seq its.toArray n } = { cls := .type "list", data := .seq (its.set j u).toArray n } := by
  simp [Obj.mapSeq]
theorem Inv.lst {pins : List (Addr × Obj)} {σ : St} {H : Hp} {s : Shared} {p : Addr} {xs : List V} (I : Inv X pins σ H s) (h : H p = some (.lst xs)) :
    ∃ (its : List Value) (n : Nat), Vals xs its ∧ s.heap.get? p = some { cls := .type "list", data := .seq its.toArray n } ∧ xs.length ≤ sizeLine := by
  obtain ⟨z, its, n, r, e⟩ := I.hok p _ h
  exact ⟨its, n, r, e, z⟩
/-- the list at p is written by an update of its object -/
theorem Inv.lstUpd {pins : List (Addr × Obj)} {σ : St} {H : Hp} {s : Shared} {p : Addr} {xs ys : List V} {its its' : List Value} {n n' : Nat} {f : Obj → Obj} (I : Inv X pins σ H s) (h : H p = some (.lst xs))
    (ho : s.heap.get? p = some { cls := .type "list", data := .seq its.toArray n }) (hf : f { cls := .type "list", data := .seq its.toArray n } = { cls := .type "list", data := .seq its'.toArray n' }) (r : Vals ys its') (hz : ys.length ≤ sizeLine) (t : Nat) :
    Inv X pins σ (upd H p (.lst ys)) { s with heap := s.heap.update p f, toks := t } := by
  have e : (s.heap.update p f).get? p = some { cls := .type "list", data := .seq its'.toArray n' } := by
    rw [Heap.get?_update_self f ho (by rw [hf] <;> rfl), hf]
  refine I.write (x := p) (e := p) (by rw [h]; trivial) (.inl rfl) (fun b u hb q => (Heap.get?_update_other _ _ (Ne.symm hb)).trans q) ⟨_, e⟩ ?_
  exact ⟨hz, its', n', r, e⟩
def rSetL : V → V → V → Hp → (Hp → Prop) → Prop := fun o i v H Q => ∃ p xs k j, o = .ref p ∧ i = .int k ∧ H p = some (.lst xs) ∧ ixN xs.length k = some j ∧ Q (upd H p (.lst (xs.set j v)))
theorem set_list : PSet X rSetL := by
  intro pins s σ H o i v ov iv u Q I ro ri rv h
  obtain ⟨p, xs, k, j, rfl, rfl, hp, hj, q⟩ := h
  cases ro
  obtain ⟨t, rfl⟩ := ri
  obtain ⟨its, n, r, ho, hz⟩ := I.lst hp
  obtain ⟨h1, h2, h3, h4⟩ := ixN_seq hj
  have hl := r.length
  have hn := line63
  have I' : Inv X pins σ (upd H p (.lst (xs.set j v))) { s with heap := s.heap.update p (Obj.mapSeq (·.setIfInBounds j u)) } :=
    I.lstUpd hp ho (mapSeq_set its n j u) (r.set rv j) (by rw [List.length_set]; exact hz) s.toks
  by_cases h0 : 0 ≤ k
  · have hk : k.toNat = j := by
      rw [seqIndex_of h0 h4] at h1
      exact Option.some.inj h1
    exact PySem.W.ki_setAt ho h0 (by omega) (by rw [List.size_toArray, ← hl]; exact h4) (by rw [hk]; exact ⟨_, I', q⟩)
  · have hk : (k + (its.toArray.size : Int)).toNat = j := by
      rw [seqIndex_neg (by omega) h3] at h1
      rw [List.size_toArray, ← hl]
      exact Option.some.inj h1
    exact PySem.W.ki_setBack ho (by omega) (by rw [List.size_toArray, ← hl]; exact h3) (by omega) (by rw [hk]; exact ⟨_, I', q⟩)

/-! ### slices -/
theorem slice_bounds (lo hi : Option Int) (n : Nat) : (sliceBounds lo hi none n).1 = ((HT.sIx n 0 lo : Nat) : Int) ∧ (sliceBounds lo hi none n).2.1 = ((HT.sIx n n hi : Nat) : Int) ∧ (sliceBounds lo hi none n).2.2 = 1 := by
  refine ⟨?_, ?_, rfl⟩
  · cases lo with
    | none => simp [sliceBounds, HT.sIx]
    | some i =>
      simp only [sliceBounds, HT.sIx, Option.getD_none, show (1 : Int) > 0 by decide, if_true]
      by_cases h : i < 0
      · simp only [h, if_true] <;> omega
      · simp only [h, if_false] <;> omega
  · cases hi with
    | none => simp [sliceBounds, HT.sIx]
    | some i =>
      simp only [sliceBounds, HT.sIx, Option.getD_none, show (1 : Int) > 0 by decide, if_true]
      by_cases h : i < 0
      · simp only [h, if_true] <;> omega
      · simp only [h, if_false] <;> omega
theorem slicePick_cut (its : List Value) (lo hi : Option Int) : slicePick its.toArray lo hi none = ((its.drop (HT.sIx its.length 0 lo)).take (HT.sIx its.length its.length hi - HT.sIx its.length 0 lo)).toArray := by
  obtain ⟨h1, h2, h3⟩ := slice_bounds lo hi its.toArray.size
  unfold slicePick
  rw [h1, h2, h3]
  simp only [sliceRange_one, pick_run, List.size_toArray] <;> rfl
/-- xs[lo:hi] of a list: a new list -/
def rSlL (K : PySem.W.Frag) : V → Option Int → Option Int → Hp → VK → Prop := fun x lo hi H Q => ∃ a xs, x = .ref a ∧ SqL K H a xs ∧ ∀ p, H p = none → Q (.ref p) (upd H p (.lst (cutV xs lo hi)))
theorem sl_list : SlR X (rSlL X.K) := by
  intro pins s σ H x v vl vu lo hi sl Q I rx hs pl pu h
  obtain ⟨a, xs, rfl, hx, q⟩ := h
  cases rx
  obtain ⟨its, r, ht, hz⟩ := I.list hx
  have hlen := r.length
  refine ⟨"list", _, slot_list_getitem.lookup, ht.isList.typeIs, ?_⟩
  refine wpAny_getItem_list_slice ht.isList hs pl pu .none (by simp) ?_ (by rw [List.size_toArray] <;> omega)
  rw [slicePick_cut, ← hlen]
  refine ⟨.ref s.heap.objs.size, _, I.laid (t' := s.toks) (o := .lst (cutV xs lo hi)) (fun b ob q => Heap.get?_push_of_some _ q) (Nat.le_refl _) ?_, rfl, q _ (I.hok.fresh (Nat.le_refl _))⟩
  exact ⟨Nat.le_trans (cutV_length xs lo hi) hz, _, 0, (r.drop (HT.sIx xs.length 0 lo)).take (HT.sIx xs.length xs.length hi - HT.sIx xs.length 0 lo), Heap.get?_push_size _ rfl⟩

/-! ### in, not in: flat items -/
def flatV : V → Bool
  | .non => true
  | .bl _ => true
  | .int _ => true
  | .str _ => true
  | _ => false
/-- == of flat values -/
def eqV : V → V → Bool
  | .non, .non => true
  | .bl a, .bl b => a == b
  | .bl a, .int b => (if a then 1 else 0) == b
  | .int a, .bl b => a == (if b then 1 else 0)
  | .int a, .int b => a == b
  | .str a, .str b => a == b
  | _, _ => false
theorem eqAt_V {A : Around} {s : Shared} {y x : V} {u v : Value} (ry : RelV y u) (rx : RelV x v) (fy : flatV y = true) (fx : flatV x = true) : SeqAt.EqAt A s u v (eqV y x) := by
  cases y with
  | non =>
    cases ry
    cases x with
    | non => cases rx; exact SeqAt.EqAt.same _
    | bl b => cases rx; exact SeqAt.EqAt.none_bool b
    | int b => obtain ⟨t, rfl⟩ := rx; exact SeqAt.EqAt.none_int b t
    | str b => obtain ⟨t, rfl⟩ := rx; exact SeqAt.EqAt.none_str b t
    | _ => exact absurd (show false = true from fx) Bool.false_ne_true
  | bl a =>
    cases ry
    cases x with
    | non => cases rx; exact SeqAt.EqAt.bool_none a
    | bl b => cases rx; exact SeqAt.EqAt.bool_bool a b
    | int b => obtain ⟨t, rfl⟩ := rx; exact SeqAt.EqAt.bool_int a b t
    | str b => obtain ⟨t, rfl⟩ := rx; exact SeqAt.EqAt.bool_str a b t
    | _ => exact absurd (show false = true from fx) Bool.false_ne_true
  | int a =>
    obtain ⟨t', rfl⟩ := ry
    cases x with
    | non => cases rx; exact SeqAt.EqAt.int_none a t'
    | bl b => cases rx; exact SeqAt.EqAt.int_bool a t' b
    | int b => obtain ⟨t, rfl⟩ := rx; exact SeqAt.EqAt.int_int a t' b t
    | str b => obtain ⟨t, rfl⟩ := rx; exact SeqAt.EqAt.int_str a t' b t
    | _ => exact absurd (show false = true from fx) Bool.false_ne_true
  | str a =>
    obtain ⟨t', rfl⟩ := ry
    cases x with
    | non => cases rx; exact SeqAt.EqAt.str_none a t'
    | bl b => cases rx; exact SeqAt.EqAt.str_bool a t' b
    | int b => obtain ⟨t, rfl⟩ := rx; exact SeqAt.EqAt.str_int a t' b t
    | str b => obtain ⟨t, rfl⟩ := rx; exact SeqAt.EqAt.str_str a t' b t
    | _ => exact absurd (show false = true from fx) Bool.false_ne_true
  | _ => exact absurd (show false = true from fy) Bool.false_ne_true
/-- the items' answers, read off the values (a value's own answer does not lean on its token) -/
def eqU (x : V) (u : Value) : Bool := match u with
  | .none => eqV .non x
  | .bool b => eqV (.bl b) x
  | .int i _ => eqV (.int i) x
  | .str z _ => eqV (.str z) x
  | _ => false
theorem eqU_of {x y : V} {u : Value} (r : RelV y u) (f : flatV y = true) : eqU x u = eqV y x := by
  cases y with
  | non => cases r; rfl
  | bl b => cases r; rfl
  | int i => obtain ⟨t, rfl⟩ := r; rfl
  | str z => obtain ⟨t, rfl⟩ := r; rfl
  | _ => exact absurd (show false = true from f) Bool.false_ne_true
theorem any_eqU {x : V} : ∀ {xs : List V} {us : List Value}, Vals xs us → xs.all flatV = true → us.any (eqU x) = xs.any fun y => eqV y x
  | _, _, .nil, _ => rfl
  | y :: xs, u :: us, .cons r t, f => by
    rw [List.all_cons, Bool.and_eq_true] at f
    rw [List.any_cons, List.any_cons, eqU_of r f.1, any_eqU t f.2]
theorem mem_eqAt {A : Around} {s : Shared} {x : V} {v : Value} (rx : RelV x v) (fx : flatV x = true) : ∀ {xs : List V} {us : List Value}, Vals xs us → xs.all flatV = true → ∀ u ∈ us, SeqAt.EqAt A s u v (eqU x u)
  | _, _, .nil, _ => fun u hu => by cases hu
  | y :: xs, u :: us, .cons r t, f => fun u' hu => by
    rw [List.all_cons, Bool.and_eq_true] at f
    rcases List.mem_cons.mp hu with rfl | hu
    · rw [eqU_of r f.1]; exact eqAt_V r rx f.1 fx
    · exact mem_eqAt rx fx t f.2 u' hu
def inV (x : V) (xs : List V) : Bool := xs.any fun y => eqV y x
/-- x in a list or tuple of flat items -/
def rIn (K : PySem.W.Frag) (neg : Bool) : R2 := fun x y H Q => ∃ p xs, y = .ref p ∧ (SqL K H p xs ∨ SqT K H p xs) ∧ flatV x = true ∧ xs.all flatV = true ∧ Q (.bl (if neg then !inV x xs else inV x xs)) H
theorem op_in_seq : OpR X (compareOp .In) (rIn X.K false) := by
  intro pins s σ H x y v u Q I rx ry h
  obtain ⟨p, xs, rfl, hq, fx, fs, q⟩ := h
  cases ry
  rcases hq with hq | hq
  · obtain ⟨its, r, pl, hz⟩ := I.list hq
    refine SeqAt.in_listAt (eqU x) pl.isList (fun w hw => mem_eqAt rx fx r fs w (by simpa using hw)) ⟨.bl _, H, I, rfl, ?_⟩
    rw [show its.toArray.any (eqU x) = its.any (eqU x) by simp, any_eqU r fs]
    exact q
  · obtain ⟨its, r, pl, hz⟩ := I.tuple hq
    refine SeqAt.in_tupleAt (eqU x) pl (fun w hw => mem_eqAt rx fx r fs w (by simpa using hw)) ⟨.bl _, H, I, rfl, ?_⟩
    rw [show its.toArray.any (eqU x) = its.any (eqU x) by simp, any_eqU r fs]
    exact q
theorem op_notIn_seq : OpR X (compareOp .NotIn) (rIn X.K true) := by
  intro pins s σ H x y v u Q I rx ry h
  obtain ⟨p, xs, rfl, hq, fx, fs, q⟩ := h
  cases ry
  rcases hq with hq | hq
  · obtain ⟨its, r, pl, hz⟩ := I.list hq
    refine SeqAt.notIn_listAt (eqU x) pl.isList (fun w hw => mem_eqAt rx fx r fs w (by simpa using hw)) ⟨.bl _, H, I, rfl, ?_⟩
    rw [show its.toArray.any (eqU x) = its.any (eqU x) by simp, any_eqU r fs]
    exact q
  · obtain ⟨its, r, pl, hz⟩ := I.tuple hq
    refine SeqAt.notIn_tupleAt (eqU x) pl (fun w hw => mem_eqAt rx fx r fs w (by simpa using hw)) ⟨.bl _, H, I, rfl, ?_⟩
    rw [show its.toArray.any (eqU x) = its.any (eqU x) by simp, any_eqU r fs]
    exact q
/-! ### len, list(x), tuple(x) of any list or tuple that is read -/
theorem call_len_seq : CallR X (.builtin "len") (fun xs H Q => ∃ p ys, xs = [.ref p] ∧ (SqL X.K H p ys ∨ SqT X.K H p ys) ∧ Q (.int ys.length) H) := by
  intro pins s σ H xs us Q I r h
  obtain ⟨p, ys, rfl, hq, q⟩ := h
  obtain ⟨u, rfl, rx⟩ := vals1 r
  cases rx
  have hn := line63
  rcases hq with hq | hq
  · obtain ⟨its, r', pl, hz⟩ := I.list hq
    have hlen := r'.length
    exact Calls.call_len_list pl.isList (by simp only [List.size_toArray] <;> omega) ⟨.int ys.length, H, I.tok _, ⟨s.toks + 1, by rw [List.size_toArray, hlen]⟩, q⟩
  · obtain ⟨its, r', pl, hz⟩ := I.tuple hq
    have hlen := r'.length
    exact len_tuple pl (by simp only [List.size_toArray] <;> omega) ⟨.int ys.length, H, I.tok _, ⟨s.toks + 1, by rw [List.size_toArray, hlen]⟩, q⟩
theorem CallR.or {f : Value} {r r' : List V → Hp → VK → Prop} (h : CallR X f r) (h' : CallR X f r') : CallR X f (fun xs H Q => r xs H Q ∨ r' xs H Q) := by
  intro pins s σ H xs us Q I rs q
  rcases q with q | q
  · exact h pins s σ H xs us Q I rs q
  · exact h' pins s σ H xs us Q I rs q
theorem call_list_of : CallR X (.type "list") (fun xs H Q => ∃ p ys, xs = [.ref p] ∧ (SqL X.K H p ys ∨ SqT X.K H p ys) ∧ ∀ l, H l = none → Q (.ref l) (upd H l (.lst ys))) := by
  intro pins s σ H xs us Q I r h
  obtain ⟨p, ys, rfl, hq, q⟩ := h
  obtain ⟨u, rfl, rx⟩ := vals1 r
  cases rx
  have fin : ∀ (its : List Value), Vals ys its → ys.length ≤ sizeLine → ∀ (h' : Heap) (c' : Nat), (∀ b o', s.heap.get? b = some o' → h'.get? b = some o') →
      h'.get? s.heap.objs.size = some { cls := .type "list", dict := none, data := .seq its.toArray c', slots := #[] } → EP X pins σ Q (.ref s.heap.objs.size) { s with heap := h' } := fun its r' hz h' c' kp e =>
    ⟨.ref s.heap.objs.size, _, I.laid (t' := s.toks) kp (Nat.le_refl _) (show ObjOk X.prog X.w _ h' _ (.lst ys) from ⟨hz, its, c', r', e⟩), rfl, q _ (I.hok.fresh (Nat.le_refl _))⟩
  rcases hq with hq | hq
  · obtain ⟨its, r', pl, hz⟩ := I.list hq
    have hlen := r'.length
    obtain ⟨o, ho, hc, n, hd⟩ := pl.isList
    exact call_list_seq p (.inl rfl) ho hc hd (fun h' c' kp e => fin its r' hz h' c' kp e) (by simp only [List.size_toArray] <;> omega)
  · obtain ⟨its, r', pl, hz⟩ := I.tuple hq
    have hlen := r'.length
    obtain ⟨o, ho, hc, n, hd⟩ := pl
    exact call_list_seq p (.inr rfl) ho hc hd (fun h' c' kp e => fin its r' hz h' c' kp e) (by simp only [List.size_toArray] <;> omega)
/-! ### the call of a builtin's method: o.m(..) -/
/-- the value is of that builtin type -/
def tyV (K : PySem.W.Frag) (T : String) (x : V) (H : Hp) : Prop := match x with
  | .str _ => T = "str"
  | .int _ => T = "int"
  | .ref p => (T = "list" ∧ ∃ xs, SqL K H p xs) ∨ (T = "tuple" ∧ ∃ o, K.lookup p = some o ∧ o.cls = .type "tuple" ∧ o.dict = none) ∨
      (T = "dict" ∧ ((∃ kvs, H p = some (.dK kvs)) ∨ ∃ kvs, H p = some (.dT kvs))) ∨ (T = "set" ∧ ∃ S n, H p = some (.set S n))
  | _ => False
theorem tyV_is {pins : List (Addr × Obj)} {σ : St} {H : Hp} {s : Shared} {T : String} {x : V} {v : Value} (I : Inv X pins σ H s) (r : RelV x v) (ty : tyV X.K T x H) :
    s.TypeIs v T ∧ ∀ a, v = .ref a → ∃ ob, s.heap.get? a = some ob ∧ ob.dict = none := by
  cases x with
  | str z =>
    obtain ⟨t, rfl⟩ := r
    cases (show T = "str" from ty)
    exact ⟨typeIs_str s z t, fun _ e => nomatch e⟩
  | int i =>
    obtain ⟨t, rfl⟩ := r
    cases (show T = "int" from ty)
    exact ⟨typeIs_int s i t, fun _ e => nomatch e⟩
  | ref p =>
    cases r
    rcases ty with ⟨rfl, xs, hq⟩ | ⟨rfl, o, hk, hc, hd⟩ | ⟨rfl, hk⟩ | ⟨rfl, S, n, hk⟩
    · obtain ⟨its, _, pl, _⟩ := I.list hq
      refine ⟨pl.isList.typeIs, fun a e => ?_⟩
      cases e
      obtain ⟨o, n, e, c, hd, _⟩ := pl
      exact ⟨o, e, hd⟩
    · refine ⟨⟨o, I.kIn p o hk, hc⟩, fun a e => ?_⟩
      cases e
      exact ⟨o, I.kIn _ o hk, hd⟩
    · have z : ∃ o, s.heap.get? p = some o ∧ o.ExactDict := by
        rcases hk with ⟨kvs, hk⟩ | ⟨kvs, hk⟩
        · obtain ⟨_, _, _, _, o, _, _, e, ex, _⟩ := I.hok p _ hk
          exact ⟨o, e, ex⟩
        · obtain ⟨_, _, _, _, o, _, _, e, ex, _⟩ := I.hok p _ hk
          exact ⟨o, e, ex⟩
      obtain ⟨o, e, ex⟩ := z
      refine ⟨⟨o, e, ex.1⟩, fun a e2 => ?_⟩
      cases e2
      exact ⟨o, e, ex.2.1⟩
    · obtain ⟨o, _, _, _, e, ex, _⟩ := I.hok p _ hk
      refine ⟨⟨o, e, ex.1⟩, fun a e2 => ?_⟩
      cases e2
      exact ⟨o, e, ex.2.1⟩
  | _ => exact False.elim ty
def tBM0 (K : PySem.W.Frag) (T : String) (r : V → List V → Hp → VK → Prop) (to : TE) : TE := fun σ H Q => to σ H fun x H1 => tyV K T x H1 ∧ r x [] H1 Q
def tBM (K : PySem.W.Frag) (T : String) (r : V → List V → Hp → VK → Prop) (to : TE) (t : TA) : TE := fun σ H Q => to σ H fun x H1 => tyV K T x H1 ∧ t σ H1 fun xs H2 => r x xs H2 Q
variable {o e : Expr} {es : List Expr} {to : TE} {t : TA} {name : Str} {apos cpos : Pos} {T id : String} {r : V → List V → Hp → VK → Prop}
theorem pe_bm0 (pa : PlainAttrs T) (slot : Slot T name id) (hty : typeOf (.builtin id) = pure (.type "method_descriptor")) (hm : MtR X id r) (ho : PE X o to)
    (hbase : attributeBase o name X.env (eval o X.env) = eval o X.env := by rfl) (hline : (apos.endLine == cpos.line) = true := by rfl) : PE X (.Call (.Attribute o name apos) [] [] cpos) (tBM0 X.K T r to) := by
  intro pins s σ H Q I h
  refine wpAny_Call_method0_late hbase hline (thn (ho pins s σ H _ I h) fun v s1 ⟨x, H1, I1, r1, ty, q1⟩ => ?_)
  obtain ⟨h1, h2⟩ := tyV_is I1 r1 ty
  exact ⟨T, id, pa, slot, hty, h1, h2, Calls.callWith_builtin rfl (PySem.evalArgs_none (hm pins s1 σ H1 x [] v [] Q I1 r1 .nil q1))⟩
theorem pe_bm (pa : PlainAttrs T) (slot : Slot T name id) (hty : typeOf (.builtin id) = pure (.type "method_descriptor")) (hm : MtR X id r) (ho : PE X o to) (ha : PA X (e :: es) t)
    (hbase : attributeBase o name X.env (eval o X.env) = eval o X.env := by rfl)
    (hfew : ((backTo cpos (starEach (e :: es) X.env)).all (fun x => !x.1) && (backToKw cpos (keywordEach [] X.env)).all (fun x => x.1.isSome)
      && decide ((e :: es).length + ([] : List Keyword).length + (if ([] : List Keyword).isEmpty then 0 else 1) < 30)) = true := by rfl)
    (hline : (apos.endLine == cpos.line) = true := by rfl) (hs : starEach (e :: es) X.env = (false, eval e X.env) :: starEach es X.env := by rfl) (hplain : (backTo cpos (starEach es X.env)).any (·.1) = false := by rfl) :
    PE X (.Call (.Attribute o name apos) (e :: es) [] cpos) (tBM X.K T r to t) := by
  intro pins s σ H Q I h
  refine wpAny_Call_method_late hbase hfew hline rfl (thn (ho pins s σ H _ I h) fun v s1 ⟨x, H1, I1, r1, ty, q1⟩ => ?_)
  obtain ⟨h1, h2⟩ := tyV_is I1 r1 ty
  refine ⟨T, id, pa, slot, hty, h1, h2, ?_⟩
  have hA := ha cpos pins s1 σ H1 _ I1 q1
  rw [hs] at hA ⊢
  refine Calls.callWith_builtin (by show (false || (backTo cpos (starEach es X.env)).any (·.1)) = false; rw [hplain] <;> rfl) (Calls.evalArgs_plain ?_)
  exact thn hA fun us s2 ⟨vs, H2, I2, r2, q2⟩ => hm pins s2 σ H2 x vs v us Q I2 r1 r2 q2
/- xs.append(e), list.index on a module's tuple .. are MtR facts of 06m -/
end
end L2

namespace L2
open PySem PySem.Spec PyProof.Rows

def MtM (X : Cx) (id : String) (r : V → List V → Hp → VK → Prop) : Prop :=
  ∀ (pins : List (Addr × Obj)) (s : Shared) (σ : St) (H : Hp) (x : V) (xs : List V) (v : Value) (us : List Value) (Q : VK), Inv X pins σ H s → RelV x v → Vals xs us → r x xs H Q →
    wpAny (model X.prog X.w) X.A (call (.builtin id) (v :: us)) (EP X pins σ Q) X.xe s

/-! ### lists of values -/
theorem Vals.one : ∀ {x : V} {us : List Value}, Vals [x] us → ∃ u, us = [u] ∧ RelV x u
  | _, _, .cons r .nil => ⟨_, rfl, r⟩
theorem Vals.two : ∀ {x y : V} {us : List Value}, Vals [x, y] us → ∃ u v, us = [u, v] ∧ RelV x u ∧ RelV y v
  | _, _, _, .cons r (.cons q .nil) => ⟨_, _, rfl, r, q⟩
theorem Vals.zero : ∀ {us : List Value}, Vals [] us → us = []
  | _, .nil => rfl
theorem Vals.reverse {xs : List V} {us : List Value} (h : Vals xs us) : Vals xs.reverse us.reverse := by
  induction h with
  | nil => exact .nil
  | cons r t ih => rw [List.reverse_cons, List.reverse_cons]; exact Vals.append ih (.cons r .nil)
section
variable {X : Cx} {pins : List (Addr × Obj)} {σ : St} {H : Hp} {s : Shared} {l b : Addr} {xs ys zs : List V}

/-! ### the two steps: a tracked list is rewritten, a new list is laid -/
theorem Inv.lset {its its' : List Value} {n : Nat} {f : Array Value → Array Value} {t' : Nat} (I : Inv X pins σ H s) (hH : H l = some (.lst xs))
    (e : s.heap.get? l = some { cls := .type "list", data := .seq its.toArray n }) (hf : f its.toArray = its'.toArray) (hv : Vals ys its') (hz : ys.length ≤ sizeLine) :
    Inv X pins σ (upd H l (.lst ys)) { s with heap := s.heap.update l (Obj.mapSeq f), toks := t' } := by
  have q := PySem.IsL.update e f
  rw [hf] at q
  refine I.write (x := l) (e := l) (by rw [hH]; exact trivial) (.inl rfl) (fun b' u hb hu => (Heap.get?_update_other s.heap (Obj.mapSeq f) (Ne.symm hb)).trans hu) ⟨_, q⟩ ?_
  exact ⟨hz, its', _, hv, q⟩
theorem Inv.lnew {its : List Value} {t' : Nat} (I : Inv X pins σ H s) (hv : Vals ys its) (hz : ys.length ≤ sizeLine) :
    Inv X pins σ (upd H s.heap.objs.size (.lst ys)) { s with heap := s.heap.push { cls := .type "list", data := .seq its.toArray }, toks := t' } :=
  I.laid (fun _ _ q => Heap.get?_push_of_some _ q) (Nat.le_refl _) ⟨hz, its, 0, hv, Heap.get?_push_size _ rfl⟩
theorem Inv.fresh (I : Inv X pins σ H s) : H s.heap.objs.size = none := I.hok.fresh (Nat.le_refl _)
theorem Inv.lstM (I : Inv X pins σ H s) (hH : H l = some (.lst xs)) : xs.length ≤ sizeLine ∧ ∃ (its : List Value) (n : Nat), Vals xs its ∧ xs.length = its.length ∧ s.heap.get? l = some { cls := .type "list", data := .seq its.toArray n } := by
  obtain ⟨z, its, n, r, e⟩ := I.hok l _ hH
  exact ⟨z, its, n, r, r.length, e⟩

end

section
variable {X : Cx}

/-! ### methods -/
def rAppend : V → List V → Hp → VK → Prop := fun x vs H Q => ∃ l xs y, x = .ref l ∧ vs = [y] ∧ H l = some (.lst xs) ∧ xs.length < sizeLine ∧ Q .non (upd H l (.lst (xs ++ [y])))
theorem mt_append : MtM X "list.append" rAppend := by
  intro pins s σ H x vs v us Q I rx rv h
  obtain ⟨l, xs, y, rfl, rfl, hH, hz, q⟩ := h
  cases rx
  obtain ⟨u, rfl, ru⟩ := rv.one
  obtain ⟨z, its, n, r, hl, e⟩ := I.lstM hH
  refine call_meets F.slot_list_append ⟨_, e, rfl⟩ F.entry_list_append (F.args_list_append_2 _ _) (PySem.list_append l its.toArray n u (by rw [List.size_toArray]; omega)) ⟨e, ?_⟩
  refine ⟨.non, _, I.lset (its' := its ++ [u]) hH e (by simp) (r.append (.cons ru .nil)) ?_, rfl, q⟩
  rw [List.length_append, List.length_singleton]
  omega

/-! ### list + list, list += list, list * int -/
def rCat : R2 := fun x y H Q => ∃ l b xs zs, x = .ref l ∧ y = .ref b ∧ H l = some (.lst xs) ∧ H b = some (.lst zs) ∧ xs.length + zs.length ≤ sizeLine ∧ ∀ p, H p = none → Q (.ref p) (upd H p (.lst (xs ++ zs)))
theorem op_cat : OpR X (binaryOp .Add) rCat := by
  intro pins s σ H x y v u Q I rx ry h
  obtain ⟨l, b, xs, zs, rfl, rfl, hH, hB, hz, q⟩ := h
  cases rx
  cases ry
  obtain ⟨z, its, n, r, hl, e⟩ := I.lstM hH
  obtain ⟨z2, its2, n2, r2, hl2, e2⟩ := I.lstM hB
  refine PySem.P.add_list e e2 ?_ (by rw [List.size_toArray, List.size_toArray]; omega)
  have ea : its.toArray ++ its2.toArray = (its ++ its2).toArray := by simp
  rw [ea]
  exact ⟨.ref _, _, I.lnew (t' := s.toks) (r.append r2) (by rw [List.length_append]; omega), rfl, q _ I.fresh⟩
/-! ### del xs[i] -/
end

/-! ### xs[a:b] = ys -/
section
variable {prog : Program} {w : World} {A : Around} {E : Value → Shared → Prop} {s : Shared}
end

section
variable {X : Cx}
end
end L2

namespace Att
open PySem PySem.W PySem.Calls PyProof.Rows

/-! ### the script -/
theorem ints_of_wellAll {P : Params} {h : Heap} : ∀ (ns : List Int) (vs : List Value), WellAll P h vs (ns.map WData.int) → IntsAre vs ns := by
  intro ns
  induction ns with
  | nil =>
    intro vs w
    rw [List.map_nil] at w
    cases w
    exact .nil
  | cons n ns ih =>
    intro vs w
    rw [List.map_cons] at w
    cases w with
    | cons a b =>
      cases a
      exact .cons _ _ (ih _ b)

theorem script_of {l : OpenLaw} {n : Nat} (hn : l.most = some n) {P : Params} {h : Heap} {args : List WData} {vals : List Value}
    (hpre : l.row.toRowW.claim.pre args = true) (hwl : WellAll P h vals args) :
    ∃ a vs ns, vals = [Value.ref a] ∧ args = [WData.list (ns.map WData.int)] ∧ h.get? a = some { cls := .type "list", data := .seq vs.toArray } ∧ IntsAre vs ns ∧ ns.length ≤ n := by
  have hsh : WShape.hasAll [] args [.list .int] = true := (pre_splitW hpre).1
  have hc : l.pre.holds [] { args := args } = true := (pre_splitW hpre).2
  obtain ⟨d, r, rfl, h1, h2⟩ := hasAllW_cons hsh
  obtain rfl := hasAllW_nil h2
  obtain ⟨xs, rfl, h3⟩ := hasW_list h1
  obtain ⟨ns, rfl⟩ := items_int h3
  have hlen : ns.length ≤ n := by
    unfold OpenLaw.pre at hc
    have h4 : (WTm.not (.lt (.lit (.int (n : Int))) (.len (.arg 0)))).holds [] { args := [.list (ns.map .int)] } = true := by
      have h4 := (holds_andW hc).1
      rw [hn] at h4
      exact h4
    have h5 := condW_of h4 (w_not (w_lt w_lit (w_len_list (w_arg rfl))))
    rw [List.length_map] at h5
    refine Nat.le_of_not_lt fun q => ?_
    have q' : (n : Int) < ((ns.length : Nat) : Int) := by omega
    first
      | (rw [decide_eq_true q'] at h5; exact absurd h5 (by decide))
      | (simp at h5; omega)
  cases hwl with
  | cons w1 w2 =>
    cases w2
    cases w1 with
    | list ho hall => exact ⟨_, _, ns, rfl, rfl, ho, ints_of_wellAll ns _ hall, hlen⟩

theorem post_true (l : OpenLaw) (args : List WData) : l.row.toRowW.claim.post args (.bool true) args = true :=
  postW_of (r := l.row.toRowW) (X := (true == true))
    (show WShape.has [] (.bool true) .bool = true by first | rfl | decide | simp [WShape.has, WShape.arms, WShape.armsAll])
    (show (WTm.eq .res (.lit (.bool true))).value [] { args := args, res := some (.bool true), after := args } = some (.bool (true == true)) from w_eq_bool (w_res rfl) w_lit) rfl

/-! ### the attachment: holds_open's last premise (the goal 'hc' behind k_head) from a wpAny of the law's body -/
/-- the same from a codeAny of the CALL (for a layer whose function contracts speak of calls) -/
theorem attach_call {l : OpenLaw} {n : Nat} {q : Program} {loose : List Str} {XP : (Str → Option Value) → Heap → Prop} {YP : World → Heap → Prop} {d : DefRec}
    (hn : l.most = some n) (hdf : d.params.defaults = [])
    (call : ∀ (w : World) (s₀ s₁ : Shared) (mg mb : Str → Option Value) (fa : Addr) (o : Obj) (pm cd doc : Value) (a : Addr) (vs : List Value) (ns : List Int),
      Ground q loose [] XP w s₀ mg mb s₁.heap → YP w s₁.heap →
      s₁.heap.get? fa = some o → o.data = .func (docDef d.name d.params d.body d.scope pm cd doc) → s₁.heap.CodeRec cd d.name → mg d.name = some (.ref fa) →
      s₁.heap.get? a = some { cls := .type "list", data := .seq vs.toArray } → IntsAre vs ns → ns.length ≤ n → s₁.gens = #[] →
      codeAny (model l.prog w) callerA (.call (.ref fa) ⟨[.ref a], []⟩) (fun r s' => r = .ok (.ret (.bool true)) ∧ OldK s₁.heap s'.heap ∧ s'.os = s₁.os ∧ AllBare s'.gens) s₁) :
    WalkO q loose XP YP l.row.toRowW d [] (fun f vs => PySem.call f vs) := by
  intro w s₀ s₁ mg mb G Y fa o pm cd doc dV kV ho hd hcd hD hmg hg args vals as hpre hlay hrd hwl hlo
  obtain rfl : dV = .none := Dflts.none hD hdf
  obtain rfl : kV = .none := Dflts.noKw hD
  obtain ⟨a, vs, ns, rfl, rfl, hobj, hints, hlen⟩ := script_of hn hpre hwl
  refine enter_call (codeAny_mono (call w s₀ s₁ mg mb fa o pm cd doc a vs ns G Y ho (fd_plain hd) hcd hmg hobj hints hlen hg) fun r s' hq => ?_)
  obtain ⟨rfl, h2, h3, h4⟩ := hq
  exact ⟨.inl ⟨.bool true, .bool true, [], rfl, fun _ => rfl, .bool true, post_true l _, fun _ => ⟨List.Pairwise.nil, fun _ hm => (nomatch hm)⟩⟩, h2, h3, h4⟩

/-! ### rules over ANY heap (no ledger) from facts about the written part K: the library's own take a ledger (News) for what they write -/
section
variable {prog : Program} {w : World} {A : Around} {E : Value → Shared → Prop} {s : Shared} {K : Frag}

/-! the whole heap as the ledger: makes every rule that writes through a ledger a rule over any heap -/
def ledger (h : Heap) (L d : Addr) : List (Addr × Obj) := (List.range h.objs.size).filterMap fun a => if a = L ∨ a = d then none else (h.get? a).map fun o => (a, o)
end
end Att

namespace L2
open PySem PySem.Spec PyProof.Rows

theorem vals_ints : ∀ {vs : List Value} {ns : List Int}, IntsAre vs ns → Vals (ns.map V.int) vs
  | _, _, .nil => .nil
  | _, _, .cons n t h => .cons ⟨t, rfl⟩ (vals_ints h)

/-- nothing is tracked but the script, known to the object (or it is an object of the module) -/
def Only (H : Hp) : Prop := ∀ b, H b = none ∨ ∃ o xs, H b = some (.frz o (.lst xs))

/-- THE HEAD: the law's promise, at the heap behind the top. F, the promise of the law's def, may use that base is part of the heap (so K.In base, base.Ns mainGlobals mg stand in Mod) -/
theorem law_call {P : Program} {w : World} {K : PySem.W.Frag} {mg mb : Str → Option Value} {CX : CXT} {k : Nat} {fa a : Addr} {fd : FuncData} {x : Str} {sp : Sp} {s₁ : Shared} {vs : List Value} {ns : List Int}
    (KX : K.In s₁.heap) (hns : s₁.heap.Ns mainGlobals mg) (hb : s₁.heap.Ns builtinsNs mb) (hbb : ∀ x : Str, x ≠ "__name__" → mb x = bootBuiltins x) (hlim : s₁.heap.NoLimit) (hg : s₁.gens = #[])
    (ha : s₁.heap.get? a = some { cls := .type "list", data := .seq vs.toArray }) (hi : IntsAre vs ns) (hl : ns.length ≤ sizeLine) (hr : Room k callerA)
    (F : ∀ base : Heap, K.In base → base.Ns mainGlobals mg → FnOk P w K mg base CX k fa fd [x] sp) (hbind : ∀ (s : Shared) (u : Value), BindsTo s fd ⟨[u], []⟩ [(x, u)])
    (hsp : ∀ H : Hp, Only H → SqL K H a (ns.map V.int) → sp [.ref a] H (fun v _ => v = .bl true) fun _ _ _ => False)
    (hCX : ∀ H e s', CX [] H s₁ (fun _ _ _ => False) e s' → False) :
    codeAny (model P w) callerA (.call (.ref fa) ⟨[.ref a], []⟩) (fun r s' => r = .ok (.ret (.bool true)) ∧ OldK s₁.heap s'.heap ∧ s'.os = s₁.os ∧ AllBare s'.gens) s₁ := by
  have rv := vals_ints hi
  have lenV := hi.length
  -- from an abstract heap in which nothing but the script may be tracked
  have core : ∀ H : Hp, Only H → SqL K H a (ns.map V.int) → HOk P w H s₁.heap → (∀ b, H b ≠ none → b = a) → (H a ≠ none → K.lookup a = none) →
      codeAny (model P w) callerA (.call (.ref fa) ⟨[.ref a], []⟩) (fun r s' => r = .ok (.ret (.bool true)) ∧ OldK s₁.heap s'.heap ∧ s'.os = s₁.os ∧ AllBare s'.gens) s₁ := by
    intro H hO hS hok hA hK
    have base_of : ∀ {b : Addr} {o : Obj}, s₁.heap.get? b = some o → H b = none → (hidT s₁.heap H).get? b = some o := fun e n => hidT_get e n
    have noA : ∀ {b : Addr} {o : Obj} {es : Array DictEntry} {ep : Nat}, s₁.heap.get? b = some o → o.data = .dict es ep → H b = none := fun {b o es ep} e d => by
      cases q : H b with
      | none => rfl
      | some u =>
        have e' : b = a := hA b (by rw [q]; simp)
        subst e'
        rw [ha] at e; cases e
        have d' : Data.seq vs.toArray _ = Data.dict es ep := d
        cases d'
    have nsK : ∀ {b : Addr} {m : Str → Option Value}, s₁.heap.Ns b m → (hidT s₁.heap H).Ns b m := fun {b m} ⟨o, es, ep, e, d, r⟩ => ⟨o, es, ep, base_of e (noA e d), d, r⟩
    have hKb : K.In (hidT s₁.heap H) := fun b o e => base_of (KX b o e) (by
      cases q : H b with
      | none => rfl
      | some u =>
        have e' : b = a := hA b (by rw [q]; simp)
        subst e'
        rw [hK (by rw [q]; simp)] at e; cases e)
    have hM : Mod K mg (hidT s₁.heap H) := ⟨hKb, nsK hns, ⟨mb, nsK hb, hbb⟩, let ⟨mc, h1, h2⟩ := hlim; ⟨mc, nsK h1, h2⟩⟩
    have e0 : Env0 P w K mg (hidT s₁.heap H) callerA [] s₁ H := ⟨rfl, hM, fun b o e => of_hidT e, Nat.le_of_eq (hidT_size _ _), trivial, fun b hb => absurd (show b ∈ ([] : List Addr) from hb) (by simp), hok, .of_eq hg⟩
    refine codeAny_mono ((F _ hKb (nsK hns)).run callerA [] s₁ H ⟨[.ref a], []⟩ [.ref a] [.ref a] _ _ hr e0 (hbind s₁ (.ref a)) (.cons rfl .nil) (hsp H hO hS)) fun r s' h => ?_
    cases r with
    | error e => exact (hCX H e s' h).elim
    | ok fl =>
      cases fl with
      | next => exact False.elim h
      | brk => exact False.elim h
      | cont => exact False.elim h
      | ret u =>
        obtain ⟨v, H', os, bare, un, hok', r', q⟩ := h
        have q' : v = .bl true := q
        subst q'
        obtain rfl : u = Value.bool true := r'
        refine ⟨rfl, OldK.of_keep fun b o e => ?_, os, bare⟩
        cases q : H b with
        | none => exact un.keep b o e q (by intro z; exact absurd (show b ∈ ([] : List Addr) from z) (by simp)) (by simp)
        | some u =>
          rcases hO b with z | ⟨ob, xs, z⟩
          · rw [q] at z; cases z
          · have z2 := un.frzs b ob _ z
            obtain ⟨e1, _⟩ := hok b _ z
            obtain ⟨e2, _⟩ := hok' b _ z2
            rw [e] at e1; cases e1
            exact e2
  cases hk : K.lookup a with
  | some o =>
    -- the script is one of the module's own objects
    have e := KX a o hk
    rw [ha] at e
    cases e
    refine core (fun _ => none) (fun _ => .inl rfl) (.inr ⟨_, vs.toArray, _, hk, rfl, rfl, rfl, by rw [List.size_toArray, lenV]; exact hl, by simpa using rv⟩) (fun b u z => by have z' : (none : Option HO) = some u := z; cases z') (fun b z => absurd rfl z) fun z => absurd rfl z
  | none =>
    refine core (fun b => if b = a then some (.frz { cls := .type "list", data := .seq vs.toArray } (.lst (ns.map V.int))) else none) (fun b => ?_) (.inl (.inr ⟨{ cls := .type "list", data := .seq vs.toArray }, if_pos rfl⟩)) (fun b u z => ?_) (fun b z => ?_) fun _ => hk
    · by_cases hb : b = a
      · exact .inr ⟨_, _, if_pos hb⟩
      · exact .inl (if_neg hb)
    · by_cases hb : b = a
      · have z' := (if_pos hb).symm.trans z
        cases z'
        subst hb
        exact ⟨ha, by rw [List.length_map]; exact hl, vs, _, rv, ha⟩
      · have z' := (if_neg hb).symm.trans z
        cases z'
    · by_cases hb : b = a
      · exact hb
      · exact absurd (if_neg hb) z
end L2

namespace L2
open PySem PySem.Spec PyProof.Rows

abbrev KOf {K : PySem.W.Frag} {h : Heap} (_ : K.In h) : PySem.W.Frag := K

/-- the goal that k_head leaves (case hc), from the law's promise. F gives the function object fd (K's own) once, then the promise over every base -/
theorem walk_of {l : PySem.W.OpenLaw} {n k : Nat} {q : Program} {loose : List Str} {XP : (Str → Option Value) → Heap → Prop} {YP : World → Heap → Prop} {d : DefRec} {K : Params → PySem.W.Frag} {CX : World → CXT} {sp : World → Sp} {x : Str}
    (hn : l.most = some n) (hn2 : n ≤ sizeLine) (hdf : d.params.defaults = []) (hr : Room k callerA)
    (hY : ∀ (w : World) (h : Heap), YP w h → (K w.params).In h)
    (F : ∀ (w : World) (mg : Str → Option Value) (fa : Addr) (h : Heap), (K w.params).In h → h.Ns mainGlobals mg → mg d.name = some (.ref fa) →
      ∃ fd : FuncData, (∀ (s : Shared) (u : Value), BindsTo s fd ⟨[u], []⟩ [(x, u)]) ∧
        ∀ base : Heap, (K w.params).In base → base.Ns mainGlobals mg → FnOk l.prog w (K w.params) mg base (CX w) k fa fd [x] (sp w))
    (hsp : ∀ (w : World) (H : Hp) (a : Addr) (ns : List Int), ns.length ≤ n → Only H → SqL (K w.params) H a (ns.map V.int) → sp w [.ref a] H (fun v _ => v = .bl true) fun _ _ _ => False)
    (hCX : ∀ (w : World) (H : Hp) (s : Shared) (e : Value) (s' : Shared), CX w [] H s (fun _ _ _ => False) e s' → False) :
    PySem.W.WalkO q loose XP YP l.row.toRowW d [] (fun f vs => PySem.call f vs) := by
  refine Att.attach_call hn hdf fun w s₀ s₁ mg mb fa o pm cd doc a vs ns G Y ho hd hcd hmg hobj hints hlen hg => ?_
  have KX := hY w _ Y
  obtain ⟨fd, hb, hF⟩ := F w mg fa _ KX G.T.g hmg
  exact law_call KX G.T.g G.T.b G.T.builtins G.T.nolimit hg hobj hints (Nat.le_trans hlen hn2) hr hF hb (fun H hO hS => hsp w H a ns hlen hO hS) fun H e s' => hCX w H s₁ e s'
/-- the same where the promise hangs on the written part alone: (sp := My.sp_law), no hole under a binder -/
theorem walk_ofK {l : PySem.W.OpenLaw} {n k : Nat} {q : Program} {loose : List Str} {XP : (Str → Option Value) → Heap → Prop} {YP : World → Heap → Prop} {d : DefRec} {K : Params → PySem.W.Frag} {CX : CXT} {sp : PySem.W.Frag → Sp} {x : Str}
    (hn : l.most = some n) (hn2 : n ≤ sizeLine) (hdf : d.params.defaults = []) (hr : Room k callerA)
    (hY : ∀ (w : World) (h : Heap), YP w h → (K w.params).In h)
    (F : ∀ (w : World) (mg : Str → Option Value) (fa : Addr) (h : Heap), (K w.params).In h → h.Ns mainGlobals mg → mg d.name = some (.ref fa) →
      ∃ fd : FuncData, (∀ (s : Shared) (u : Value), BindsTo s fd ⟨[u], []⟩ [(x, u)]) ∧
        ∀ base : Heap, (K w.params).In base → base.Ns mainGlobals mg → FnOk l.prog w (K w.params) mg base CX k fa fd [x] (sp (K w.params)))
    (hsp : ∀ (K : PySem.W.Frag) (H : Hp) (a : Addr) (ns : List Int), ns.length ≤ n → Only H → SqL K H a (ns.map V.int) → sp K [.ref a] H (fun v _ => v = .bl true) fun _ _ _ => False)
    (hCX : ∀ (H : Hp) (s : Shared) (e : Value) (s' : Shared), CX [] H s (fun _ _ _ => False) e s' → False) :
    PySem.W.WalkO q loose XP YP l.row.toRowW d [] (fun f vs => PySem.call f vs) :=
  walk_of (K := K) (CX := fun _ => CX) (sp := fun w => sp (K w.params)) hn hn2 hdf hr hY F (fun w H a ns h1 h2 h3 => hsp (K w.params) H a ns h1 h2 h3) fun _ H s e s' => hCX H s e s'
end L2

/- THE LAST THEOREM (shape; LID, My.* are yours):
   My.Adr: a structure of the addresses that your layer names (classes, functions); My.Txt K t: a structure (Prop) of the equations over K;
   My.txt_mk : {K} {implicit addresses ..} (e1 : nsIn K mainGlobals "law" = some (some (.ref f))) (e2 : K.lookup f = some ⟨oc, od, .func (fnOf "law" "law" params body scope dV kV doc pm an cdv ct), sl⟩) (e3 : codeIn K cdv "law" = true) .. : ∃ t, My.Txt K t

set_option maxRecDepth 100000 in
set_option maxHeartbeats 0 in
theorem PySem.Challenge.cw_LID_holds : PySem.Challenge.rw_LID.Holds := by
  w_on; o_law; k_head; (case hw => w_witness2)
  k_fill
  refine L2.walk_of (l := PySem.Challenge.rw_LID) (n := 63) (k := 40) (x := "script") (CX := fun w => ..) (sp := fun _ => My.sp_law) rfl (by decide) rfl ⟨rfl, by decide, by decide⟩ (fun w h Y => PySem.W.kIn_of Y) ?F ?S ?C
  case F =>
    intro w mg fa h KX G hmg
    have T : ∃ t, My.Txt (L2.KOf KX) t := by
      dsimp only [L2.KOf]                          -- K must stand as «<heap const> w.params» for k_is
      refine' My.txt_mk ?e1 ?e2 ?e3 ..
      (case e1 => PySem.W.k_is)                    -- in the order: a name -> its address -> its object -> its parts
      (case e2 => PySem.W.k_is)
      ..
    obtain ⟨t, T⟩ := T
    have e0 := hmg.symm.trans (PySem.W.mg_of KX G T.law)
    cases e0                                       -- fa is the law's own address
    exact ⟨_, fun s u => .of_eq rfl, fun base kb nb => My.law_fn T kb nb⟩     -- if «.of_eq rfl» comes too early: refine' ⟨_, ?b, fun base kb nb => My.law_fn T kb nb⟩; exact fun s u => .of_eq rfl
  case S => exact fun w H a ns hl hO hS => ..
  case C => exact ..
(the tactic k_is has no namespace: write k_is) -/

/-! SHORT WORDS over the layer: a def of the text, its body, what a loop and a test want. -/
namespace L2
open PySem PySem.Spec PyProof.Rows

/-! ### the text by places -/
/-- the j-th statement of a class's body -/
def inClass (s : Stmt) (j : Nat) : Stmt := match s with
  | .ClassDef _ _ _ body _ _ _ _ _ _ _ => body.getD j (.Pass ⟨0, 0, 0, 0⟩)
  | _ => .Pass ⟨0, 0, 0, 0⟩
def defArgs (s : Stmt) : Arguments := match s with
  | .FunctionDef _ a _ _ _ _ _ _ _ _ => a
  | _ => { posonlyargs := [], args := [], vararg := none, kwonlyargs := [], kw_defaults := [], kwarg := none, defaults := [] }
def defBody (s : Stmt) : List Stmt := match s with
  | .FunctionDef _ _ b _ _ _ _ _ _ _ => b
  | _ => []
def defScope (s : Stmt) : Scope := match s with
  | .FunctionDef _ _ _ _ _ _ sc _ _ _ => sc
  | _ => { kind := .function, names := [], isGenerator := false, isCoroutine := false }

/-! ### no exception leaves a def -/
abbrev CX0 : CXT := fun _ _ _ _ _ _ => False
abbrev E0 : XK := fun _ _ _ => False
theorem pass0 {X : Cx} : Passes CX0 X E0 := fun _ _ _ _ _ _ _ h => h.elim

/-! ### a def (or method) of the text as it stands behind the top -/
structure Fun (K : PySem.W.Frag) (x qual : Str) (st : Stmt) (f : Addr) (fd : FuncData) : Prop where
  ex : ∃ (oc : Value) (od : Option Addr) (kV doc pm : Value) (an : Option Addr) (cdv ct : Value) (osl : Array (Option Value)),
    fd = PySem.W.fnOf x qual (defArgs st) (defBody st) (defScope st) .none kV doc pm an cdv ct ∧ K.lookup f = some ⟨oc, od, .func fd, osl⟩ ∧ PySem.W.codeIn K cdv qual = true
  kp : PySem.W.keepIn K (.ref f) = true
section
variable {P : Program} {w : World} {K : PySem.W.Frag} {mg : Str → Option Value} {base : Heap}
/-- THE RULE for a def: its body as a term of rules, and the reading of that term -/
theorem Fun.ok {x qual : Str} {st : Stmt} {f : Addr} {fd : FuncData} {N ps : List Str} {k : Nat} {sp : Sp} (F : Fun K x qual st f fd) (S : FnScope N ps (defScope st)) (len : ∀ vs H Q E, sp vs H Q E → vs.length = ps.length)
    (hbody : ∀ (cdv : Value) (A : Around) (outer : List Env) (s : Shared) (H : Hp) (vs : List V) (Q : VK) (E : XK), Room k (A.deeper (envOfC qual (defScope st) s.heap.objs.size f cdv)) → sp vs H Q E →
      ∃ t, PSs (cxOf CX0 P w K mg base N qual (defScope st) f cdv A outer s H E).nox (defBody st) t ∧ t { nx := fun _ H' => Q .non H', rt := Q } (start N vs) H) : FnOk P w K mg base CX0 (k + 1) f fd ps sp := by
  obtain ⟨oc, od, kV, doc, pm, an, cdv, ct, osl, rfl, lk, hcd⟩ := F.ex
  refine fn_of lk hcd S len fun A outer s H vs Q E hr hsp => ?_
  obtain ⟨t, h, q⟩ := hbody cdv A outer s H vs Q E hr hsp
  exact ⟨t, h.nox, q⟩
/-- how its arguments bind (no defaults): h is «fun _ _ _ _ _ _ us hl => match us, hl with | [_, _], _ => rfl», one _ a parameter -/
theorem Fun.binds {x qual : Str} {st : Stmt} {f : Addr} {fd : FuncData} {ps : List Str} (F : Fun K x qual st f fd)
    (h : ∀ (kV doc pm : Value) (an : Option Addr) (cdv ct : Value) (us : List Value), us.length = ps.length → bindArgs (PySem.W.fnOf x qual (defArgs st) (defBody st) (defScope st) .none kV doc pm an cdv ct) ⟨us, []⟩ = pure (ps.zip us)) : Binds K fd ps [] := by
  obtain ⟨oc, od, kV, doc, pm, an, cdv, ct, osl, rfl, lk, hcd⟩ := F.ex
  exact .all (h kV doc pm an cdv ct)
theorem fun_mk {x qual : Str} {st : Stmt} {f : Addr} {oc : Value} {od an : Option Addr} {osl : Array (Option Value)} {kV doc pm cdv ct : Value} (l : K.lookup f = some ⟨oc, od, .func (PySem.W.fnOf x qual (defArgs st) (defBody st) (defScope st) .none kV doc pm an cdv ct), osl⟩)
    (c : PySem.W.codeIn K cdv qual = true) (k : PySem.W.keepIn K (.ref f) = true) : Fun K x qual st f (PySem.W.fnOf x qual (defArgs st) (defBody st) (defScope st) .none kV doc pm an cdv ct) := ⟨⟨oc, od, kV, doc, pm, an, cdv, ct, osl, rfl, l, c⟩, k⟩
end
theorem hu_of {A : Around} {k : Nat} (hr : Room k A) : A.units + 1 < cLine := Nat.lt_of_le_of_lt (Nat.add_le_add_left (by decide : 1 ≤ 64) _) hr.units
theorem small1000 {n : Nat} (h : n ≤ 1000) : n < sizeLine := Nat.lt_of_le_of_lt h (by decide)

/-! ### expressions in short: the name that stands in the i-th slot -/
section
variable {X : Cx}
theorem pv (i : Nat) {x : Str} {pos : Pos} (hN : X.N[i]? = some x := by rfl) (hv : Vis X.env.scope x := by first | exact Or.inl rfl | exact Or.inr (Or.inl rfl) | exact Or.inr (Or.inr rfl)) (hd : (x == ("__debug__" : Str)) = false := by decide)
    (hcd : (x == ("__classdict__" : Str)) = false := by decide) : PE X (.Name x pos) (tVar i) := pe_var hN hv hd hcd
end

/-! ### tests -/
theorem iteF {A B : Prop} (h : B) : if false = true then A else B := by
  rw [if_neg Bool.false_ne_true]
  exact h
theorem iteT {A B : Prop} (h : A) : if true = true then A else B := by
  rw [if_pos rfl]
  exact h
theorem ite2 {c A B : Prop} [Decidable c] (h1 : c → A) (h2 : ¬ c → B) : if c then A else B := by
  by_cases h : c
  · rw [if_pos h]
    exact h1 h
  · rw [if_neg h]
    exact h2 h
/-! ### heaps -/
/-- all that was tracked is as it was -/
def Same (H H' : Hp) : Prop := ∀ b o, H b = some o → H' b = some o
theorem Same.refl (H : Hp) : Same H H := fun _ _ h => h
theorem Same.trans {H H1 H2 : Hp} (a : Same H H1) (b : Same H1 H2) : Same H H2 := fun c o h => b c o (a c o h)
theorem Same.free {H H' : Hp} (e : Same H H') {l : Addr} (h : H' l = Option.none) : H l = Option.none := by
  cases q : H l with
  | none => rfl
  | some o =>
    rw [e l o q] at h
    cases h
theorem Same.seq {K : PySem.W.Frag} {H H' : Hp} {a : Addr} {xs : List V} (e : Same H H') (h : SqL K H a xs) : SqL K H' a xs := by
  rcases h with (h | ⟨o, h⟩) | h
  · exact .inl (.inl (e _ _ h))
  · exact .inl (.inr ⟨o, e _ _ h⟩)
  · exact .inr h

end L2

namespace L2
open PySem PySem.Spec PyProof.Rows

/-! ### lists of pairs as tables -/
section
variable {κ : Type} [DecidableEq κ]
def valV (kvs : List (κ × V)) (k : κ) : Option V := (kvs.find? fun kv => decide (kv.1 = k)).map (·.2)
/-- in its place, or at the end -/
def putK (kvs : List (κ × V)) (k : κ) (v : V) : List (κ × V) :=
  if (kvs.any fun kv => decide (kv.1 = k)) = true then kvs.map (fun kv => if kv.1 = k then (kv.1, v) else kv) else kvs ++ [(k, v)]
def dropK (kvs : List (κ × V)) (k : κ) : List (κ × V) := kvs.filter fun kv => decide (kv.1 ≠ k)

theorem valV_pos {p : κ × V} {r : List (κ × V)} {k : κ} (e : p.1 = k) : valV (p :: r) k = some p.2 := by simp [valV, List.find?_cons, e]
theorem valV_neg {p : κ × V} {r : List (κ × V)} {k : κ} (e : ¬ p.1 = k) : valV (p :: r) k = valV r k := by simp [valV, List.find?_cons, e]
theorem valV_any (k : κ) : ∀ kvs : List (κ × V), (kvs.any fun kv => decide (kv.1 = k)) = (valV kvs k).isSome
  | [] => rfl
  | p :: r => by
    rw [List.any_cons]
    by_cases e : p.1 = k
    · simp only [valV_pos e, decide_eq_true e, Bool.true_or, Option.isSome_some]
    · rw [valV_neg e, decide_eq_false e, Bool.false_or]; exact valV_any k r
theorem valV_snoc (k j : κ) (y : V) : ∀ kvs : List (κ × V), valV kvs k = none → valV (kvs ++ [(k, y)]) j = if j = k then some y else valV kvs j
  | [], _ => by
    by_cases e : k = j
    · rw [if_pos e.symm]; exact valV_pos (p := (k, y)) e
    · rw [if_neg (fun z => e z.symm)]; exact valV_neg (p := (k, y)) e
  | p :: r, hn => by
    rw [List.cons_append]
    have hk : ¬ p.1 = k := fun z => by rw [valV_pos z] at hn; cases hn
    rw [valV_neg hk] at hn
    have ih := valV_snoc k j y r hn
    by_cases e : p.1 = j
    · rw [valV_pos e, valV_pos e, if_neg (fun z => hk (e.trans z))]
    · rw [valV_neg e, valV_neg e, ih]
theorem length_putK (kvs : List (κ × V)) (k : κ) (v : V) : (putK kvs k v).length ≤ kvs.length + 1 := by
  unfold putK
  split
  · rw [List.length_map]; omega
  · rw [List.length_append, List.length_cons, List.length_nil]; omega
theorem putK_new {kvs : List (κ × V)} {k : κ} (v : V) (h : valV kvs k = none) : putK kvs k v = kvs ++ [(k, v)] := by
  unfold putK
  rw [valV_any, h]
  exact if_neg (by decide)

theorem RelO.isSome_eq {o : Option V} {u : Option Value} (r : RelO o u) : o.isSome = u.isSome := by
  cases o with
  | none => cases u with
    | none => rfl
    | some _ => exact (show False from r).elim
  | some _ => cases u with
    | none => exact (show False from r).elim
    | some _ => rfl
theorem RelO.getD {o : Option V} {u : Option Value} {d : V} {d' : Value} (r : RelO o u) (rd : RelV d d') : RelV (o.getD d) (u.getD d') := by
  cases o with
  | none => cases u with
    | none => exact rd
    | some _ => exact (show False from r).elim
  | some _ => cases u with
    | none => exact (show False from r).elim
    | some _ => exact r

/-- raw tables of the same keys -/
theorem KV.val {kvs : List (κ × V)} {vs : List (κ × Value)} (r : KV kvs vs) (k : κ) : RelO (valV kvs k) (valueAt vs k) := by
  unfold KV at r
  induction r with
  | nil => exact True.intro
  | @cons p q ps qs h t ih =>
    obtain ⟨h1, h2⟩ := h
    by_cases e : p.1 = k
    · have e' : q.1 = k := h1.symm.trans e
      have b : valueAt (q :: qs) k = some q.2 := by simp [valueAt, List.find?_cons, e']
      rw [valV_pos e, b]; exact h2
    · have e' : ¬ q.1 = k := fun z => e (h1.trans z)
      have b : valueAt (q :: qs) k = valueAt qs k := by simp [valueAt, List.find?_cons, e']
      rw [valV_neg e, b]; exact ih
theorem KV.any {kvs : List (κ × V)} {vs : List (κ × Value)} (r : KV kvs vs) (k : κ) : (kvs.any fun kv => decide (kv.1 = k)) = vs.any fun kv => decide (kv.1 = k) := by
  unfold KV at r
  induction r with
  | nil => rfl
  | cons h t ih => rw [List.any_cons, List.any_cons, ih, h.1]
theorem KV.repl {kvs : List (κ × V)} {vs : List (κ × Value)} (r : KV kvs vs) (k : κ) {y : V} {u : Value} (ry : RelV y u) :
    KV (kvs.map fun kv => if kv.1 = k then (kv.1, y) else kv) (vs.map fun kv => if kv.1 = k then (kv.1, u) else kv) := by
  unfold KV at r ⊢
  induction r with
  | nil => exact .nil
  | @cons p q ps qs h t ih =>
    rw [List.map_cons, List.map_cons]
    refine .cons ?_ ih
    obtain ⟨h1, h2⟩ := h
    by_cases e : p.1 = k
    · rw [if_pos e, if_pos (h1.symm.trans e)]; exact ⟨h1, ry⟩
    · rw [if_neg e, if_neg (fun z => e (h1.trans z))]; exact ⟨h1, h2⟩
theorem KV.put {kvs : List (κ × V)} {vs : List (κ × Value)} (r : KV kvs vs) (k : κ) {y : V} {u : Value} (ry : RelV y u) : KV (putK kvs k y) (stored vs k u) := by
  unfold putK stored
  rw [r.any k]
  by_cases e : (vs.any fun kv => decide (kv.1 = k)) = true
  · rw [if_pos e, if_pos e]; exact r.repl k ry
  · rw [if_neg e, if_neg e]; exact Paired.snoc r ⟨rfl, ry⟩
theorem KV.drop {kvs : List (κ × V)} {vs : List (κ × Value)} (r : KV kvs vs) (k : κ) : KV (dropK kvs k) (without vs k) := by
  unfold KV at r ⊢
  unfold dropK without
  induction r with
  | nil => exact .nil
  | @cons p q ps qs h t ih =>
    obtain ⟨h1, h2⟩ := h
    rw [List.filter_cons, List.filter_cons]
    by_cases e : p.1 = k
    · have a : ¬ decide (p.1 ≠ k) = true := by simp [e]
      have b : ¬ decide (q.1 ≠ k) = true := by simp [h1.symm.trans e]
      rw [if_neg a, if_neg b]; exact ih
    · have e' : ¬ q.1 = k := fun z => e (h1.trans z)
      have a : decide (p.1 ≠ k) = true := by simp [e]
      have b : decide (q.1 ≠ k) = true := by simp [e']
      rw [if_pos a, if_pos b]; exact .cons ⟨h1, h2⟩ ih
theorem KV.keys {kvs : List (κ × V)} {vs : List (κ × Value)} (r : KV kvs vs) : kvs.map (·.1) = vs.map (·.1) := by
  unfold KV at r
  induction r with
  | nil => rfl
  | cons h t ih => rw [List.map_cons, List.map_cons, ih, h.1]
theorem KV.length {kvs : List (κ × V)} {vs : List (κ × Value)} (r : KV kvs vs) : kvs.length = vs.length := Paired.length r
end


/-! ### a tracked dict, its keys ints and texts or tuples of these -/
theorem kV_is {P : Program} {w : World} {k : Key} {u : Value} (r : RelV (kV k) u) : (mixKind P w).is k u = true := by
  cases k with
  | inl i => obtain ⟨t, e⟩ := (show ∃ t, u = Value.int i t from r); subst e; exact mixKind_int P w i t
  | inr x => obtain ⟨t, e⟩ := (show ∃ t, u = Value.str x t from r); subst e; exact mixKind_str P w x t
theorem items_are {P : Program} {w : World} : ∀ {ks : List Key} {us : List Value}, Vals (ks.map kV) us → ItemsAre (mixKind P w) ks us
  | [], _, r => by rw [List.map_nil] at r; cases r; exact .nil
  | k :: ks, _, r => by
    rw [List.map_cons] at r
    cases r with
    | cons h t => exact .cons (kV_is h) (items_are t)

/-- raw entries of a dict with tuple keys -/
abbrev KT (H : Hp) : List (List Key × V) → List (List Key × Addr × Value) → Prop := Paired fun p q => p.1 = q.1 ∧ H q.2.1 = some (.tup (p.1.map kV)) ∧ RelV p.2 q.2.2
theorem KT.val {H : Hp} {kvs : List (List Key × V)} {xs : List (List Key × Addr × Value)} (r : KT H kvs xs) (k : List Key) : RelO (valV kvs k) ((atKey xs k).map (·.2)) := by
  induction r with
  | nil => exact True.intro
  | @cons p q ps qs h t ih =>
    obtain ⟨h1, _, h2⟩ := h
    by_cases e : p.1 = k
    · have e' : q.1 = k := h1.symm.trans e
      have b : atKey (q :: qs) k = some q.2 := by simp [atKey, List.find?_cons, e']
      rw [valV_pos e, b]; exact h2
    · have e' : ¬ q.1 = k := fun z => e (h1.trans z)
      have b : atKey (q :: qs) k = atKey qs k := by simp [atKey, List.find?_cons, e']
      rw [valV_neg e, b]; exact ih
theorem KT.repl {H : Hp} {kvs : List (List Key × V)} {xs : List (List Key × Addr × Value)} (r : KT H kvs xs) (k : List Key) {y : V} {u : Value} (ry : RelV y u) :
    KT H (kvs.map fun kv => if kv.1 = k then (kv.1, y) else kv) (xs.map (putAt k u)) := by
  induction r with
  | nil => exact .nil
  | @cons p q ps qs h t ih =>
    rw [List.map_cons, List.map_cons]
    refine .cons ?_ ih
    obtain ⟨h1, h2, h3⟩ := h
    unfold putAt
    by_cases e : p.1 = k
    · rw [if_pos e, if_pos (h1.symm.trans e)]; exact ⟨h1, h2, ry⟩
    · rw [if_neg e, if_neg (fun z => e (h1.trans z))]; exact ⟨h1, h2, h3⟩
theorem KT.put {H : Hp} {kvs : List (List Key × V)} {xs : List (List Key × Addr × Value)} (r : KT H kvs xs) (k : List Key) {b : Addr} {y : V} {u : Value} (hb : H b = some (.tup (k.map kV))) (ry : RelV y u) :
    KT H (putK kvs k y) (storedH xs k b u) := by
  have e : (kvs.any fun kv => decide (kv.1 = k)) = (atKey xs k).isSome := by
    rw [valV_any, (r.val k).isSome_eq, Option.isSome_map]
  unfold putK storedH
  rw [e]
  by_cases q : (atKey xs k).isSome = true
  · rw [if_pos q, if_pos q]; exact r.repl k ry
  · rw [if_neg q, if_neg q]; exact Paired.snoc r ⟨rfl, hb, ry⟩
theorem KT.keeps {H H' : Hp} {kvs : List (List Key × V)} {xs : List (List Key × Addr × Value)} (r : KT H kvs xs) (ht : ∀ b ys, H b = some (.tup ys) → H' b = some (.tup ys)) : KT H' kvs xs :=
  Paired.mapP r fun _ _ z => ⟨z.1, ht _ _ z.2.1, z.2.2⟩

section
variable {P : Program} {w : World} {H : Hp} {h : Heap} {a : Addr}
theorem rd_of {u : HO} (ok : HOk P w H h) (e : Rd H a u) : ObjOk P w H h a u := e.ok ok
theorem dk_rd {kvs : List (Key × V)} (ok : HOk P w H h) (e : Rd H a (.dK kvs)) : kvs.length ≤ sizeLine ∧ (a == sysModules) = false ∧ ∃ vs, KV kvs vs ∧ h.DictOf (mixKind P w) a vs :=
  show ObjOk P w H h a (.dK kvs) from rd_of ok e
theorem dk_of {kvs : List (Key × V)} (ok : HOk P w H h) (e : H a = some (.dK kvs)) : kvs.length ≤ sizeLine ∧ (a == sysModules) = false ∧ ∃ vs, KV kvs vs ∧ h.DictOf (mixKind P w) a vs := dk_rd ok (.inl e)
/-- a tracked tuple of ints and texts is a key -/
theorem key_of {ks : List Key} (ok : HOk P w H h) (e : H a = some (.tup (ks.map kV))) : (tupleKind (mixKind P w)).is h ks a := by
  obtain ⟨_, its, r, o, h1, h2, n, h3⟩ := (show ObjOk P w H h a (.tup (ks.map kV)) from ok a _ e)
  exact ⟨o, its.toArray, n, h1, h2, h3, by simpa using items_are r⟩
theorem dt_rd {kvs : List (List Key × V)} (ok : HOk P w H h) (e : Rd H a (.dT kvs)) : kvs.length ≤ sizeLine ∧ (a == sysModules) = false ∧
    ∃ xs, KT H kvs xs ∧ h.DictOfH (tupleKind (mixKind P w)) a xs := by
  obtain ⟨z, y, xs, r, o, es, ep, h1, h2, h3, h4, h5⟩ := (show ObjOk P w H h a (.dT kvs) from rd_of ok e)
  refine ⟨z, y, xs, r, o, es, ep, h1, h2, h3, h4, fun x hx => ?_, h5⟩
  have all : ∀ {l : List (List Key × V)} {m : List (List Key × Addr × Value)}, KT H l m → ∀ x ∈ m, (tupleKind (mixKind P w)).is h x.1 x.2.1 := by
    intro l m q
    induction q with
    | nil => intro x hx; exact nomatch hx
    | @cons p q ps qs hq t ih =>
      intro x hx
      rcases List.mem_cons.mp hx with e | hx
      · subst e
        exact key_of ok (by rw [← hq.1]; exact hq.2.1)
      · exact ih x hx
  exact all r x hx
theorem dt_of {kvs : List (List Key × V)} (ok : HOk P w H h) (e : H a = some (.dT kvs)) : kvs.length ≤ sizeLine ∧ (a == sysModules) = false ∧
    ∃ xs, KT H kvs xs ∧ h.DictOfH (tupleKind (mixKind P w)) a xs := dt_rd ok (.inl e)
end

/-- what the dict at a holds at the key y -/
def DGet (H : Hp) (a : Addr) (y : V) (r : Option V) : Prop :=
  (∃ kvs k, Rd H a (.dK kvs) ∧ y = kV k ∧ r = valV kvs k) ∨ ∃ kvs k b, Rd H a (.dT kvs) ∧ y = .ref b ∧ H b = some (.tup (k.map kV)) ∧ r = valV kvs k
/-- the heap behind a[y] = v -/
def DPut (H : Hp) (a : Addr) (y v : V) (H' : Hp) : Prop :=
  (∃ kvs k, H a = some (.dK kvs) ∧ y = kV k ∧ kvs.length < sizeLine ∧ H' = upd H a (.dK (putK kvs k v))) ∨
  ∃ kvs k b, H a = some (.dT kvs) ∧ y = .ref b ∧ H b = some (.tup (k.map kV)) ∧ kvs.length < sizeLine ∧ H' = upd H a (.dT (putK kvs k v))
theorem DGet.k {H : Hp} {a : Addr} {kvs : List (Key × V)} {k : Key} (e : H a = some (.dK kvs)) : DGet H a (kV k) (valV kvs k) := .inl ⟨kvs, k, .inl e, rfl, rfl⟩
theorem DGet.t {H : Hp} {a b : Addr} {kvs : List (List Key × V)} {k : List Key} (e : H a = some (.dT kvs)) (eb : H b = some (.tup (k.map kV))) : DGet H a (.ref b) (valV kvs k) := .inr ⟨kvs, k, b, .inl e, rfl, eb, rfl⟩
theorem DPut.k {H : Hp} {a : Addr} {kvs : List (Key × V)} {k : Key} {v : V} (e : H a = some (.dK kvs)) (hl : kvs.length < sizeLine) : DPut H a (kV k) v (upd H a (.dK (putK kvs k v))) := .inl ⟨kvs, k, e, rfl, hl, rfl⟩
theorem DPut.t {H : Hp} {a b : Addr} {kvs : List (List Key × V)} {k : List Key} {v : V} (e : H a = some (.dT kvs)) (eb : H b = some (.tup (k.map kV))) (hl : kvs.length < sizeLine) :
    DPut H a (.ref b) v (upd H a (.dT (putK kvs k v))) := .inr ⟨kvs, k, b, e, rfl, eb, hl, rfl⟩


section
variable {X : Cx} {pins : List (Addr × Obj)} {σ : St} {H : Hp} {s : Shared} {a : Addr} {y v : V} {u r : Value} {o : Option V} {A : Around} {E : Value → Shared → Prop}

theorem Inv.big (I : Inv X pins σ H s) : sysModules < s.heap.objs.size := by
  have h : mainGlobals < s.heap.objs.size := (I.mod.glob.keeps I.bk).lt
  exact Nat.lt_trans (by decide) h

/-- d[y], there -/
theorem d_getItem {Q : Value → Shared → Prop} (hu : A.units + 1 < cLine) (I : Inv X pins σ H s) (g : DGet H a y (some v)) (ry : RelV y u) (h : ∀ w' s', Inv X pins σ H s' → RelV v w' → Q w' s') :
    wpAny (model X.prog X.w) A (getItem (.ref a) u) Q E s := by
  rcases g with ⟨kvs, k, e, ey, l⟩ | ⟨kvs, k, b, e, ey, eb, l⟩
  · subst ey
    obtain ⟨z, hd, vs, rel, dd⟩ := dk_rd I.hok e
    obtain ⟨w', hw, rw'⟩ := RelO.some_of (v := v) (o := valueAt vs k) (by rw [l]; exact rel.val k)
    exact wpAny_getItem_of (kV_is ry) dd.mapOf hw (h w' _ (I.tok _) rw')
  · subst ey
    cases (show u = Value.ref b from ry)
    obtain ⟨z, hd, xs, rel, dd⟩ := dt_rd I.hok e
    obtain ⟨w', hw, rw'⟩ := RelO.some_of (v := v) (o := (atKey xs k).map (·.2)) (by rw [l]; exact rel.val k)
    obtain ⟨p, hp, hp2⟩ := Option.map_eq_some_iff.mp hw
    refine wpAny_getItem_heap (tupleKind_room_in1 hu) (key_of I.hok eb) dd hp ?_
    rw [hp2]
    exact h w' _ (I.tok _) rw'
/-- a dict's object is replaced -/
theorem d_write {h' : Heap} {t' : Nat} {ob : HO} (I : Inv X pins σ H s) (mu : Mut (H a)) (hs : Heap.SameBut a s.heap h') (he : ∃ q, h'.get? a = some q) (new : ObjOk X.prog X.w (upd H a ob) h' a ob) :
    Inv X pins σ (upd H a ob) { s with heap := h', toks := t' } :=
  I.write (x := a) (e := a) mu (.inl rfl) (fun b q hb z => (hs.2 b hb).trans z) he new
theorem dk_new {P : Program} {w : World} {H' : Hp} {h' : Heap} {kvs : List (Key × V)} {vs : List (Key × Value)} (z : kvs.length ≤ sizeLine) (hd : (a == sysModules) = false) (rel : KV kvs vs) (dd : h'.DictOf (mixKind P w) a vs) :
    ObjOk P w H' h' a (.dK kvs) := ⟨z, hd, vs, rel, dd⟩
/-- d[y] = v -/
theorem d_setItem {H' : Hp} {Q : Unit → Shared → Prop} (hu : A.units + 1 < cLine) (I : Inv X pins σ H s) (g : DPut H a y v H') (ry : RelV y u) (rv : RelV v r) (h : ∀ s', Inv X pins σ H' s' → Q () s') :
    wpAny (model X.prog X.w) A (setItem (.ref a) u r) Q E s := by
  rcases g with ⟨kvs, k, e, ey, l, eH⟩ | ⟨kvs, k, b, e, ey, eb, l, eH⟩
  · subst ey eH
    obtain ⟨z, hd, vs, rel, dd⟩ := dk_of I.hok e
    have hz : vs.length ≤ sizeLine := by rw [← rel.length]; exact z
    have hl : (putK kvs k v).length ≤ sizeLine := by have := length_putK kvs k v; omega
    refine wpAny_setItem_pairs (hsz := hz) (kV_is ry) dd fun h' dd' hs => h _ ?_
    have he : ∃ q, h'.get? a = some q := let ⟨q, _, _, hq, _⟩ := dd'; ⟨q, hq⟩
    exact d_write I (by rw [e]; exact True.intro) hs he (dk_new hl hd (rel.put k rv) dd')
  · subst ey eH
    cases (show u = Value.ref b from ry)
    obtain ⟨z, hd, xs, rel, dd⟩ := dt_of I.hok e
    have hz : xs.length ≤ sizeLine := by rw [← Paired.length rel]; exact z
    have hl : (putK kvs k v).length ≤ sizeLine := by have := length_putK kvs k v; omega
    refine wpAny_setItem_heap (hsz := hz) (tupleKind_room_in1 hu) (key_of I.hok eb) dd fun h' dd' hs => h _ ?_
    obtain ⟨q, es, ep, hq, h2, h3, h4, _, h5⟩ := dd'
    refine d_write I (by rw [e]; exact True.intro) hs ⟨q, hq⟩ ⟨hl, hd, _, (rel.put k eb rv).keeps fun c ys ec => ?_, q, es, ep, hq, h2, h3, h4, h5⟩
    rw [upd_ne (ne_of ec e (fun z => nomatch z))]
    exact ec
end

section
variable {X : Cx} {pins : List (Addr × Obj)} {σ : St} {H : Hp} {s : Shared} {a : Addr} {kvs : List (Key × V)} {k : Key} {u : Value} {A : Around} {E : Value → Shared → Prop}
end


/-! ### readings and rules -/
/-- the element of a subscription, not a slice -/
def NoSl (i : Expr) : Prop := ∀ ov iv, subscripted i false ov iv = operate [ov, iv] (getItem ov iv)
theorem subD_of {prog : Program} {w : World} {A : Around} {E : Value → Shared → Prop} {s : Shared} {env : Env} {value slice : Expr} {pos : Pos} {T id : String} {Q : Value → Shared → Prop}
    (hl : typeLookup (.type T) "__getitem__" = pure (some (.builtin id))) (hs : NoSl slice)
    (h : wpAny (model prog w) A (eval value env) (fun o s₁ => wpAny (model prog w) A (eval slice env) (fun i s₂ => s₂.TypeIs o T ∧ wpAny (model prog w) A (getItem o i) Q E s₂) E s₁) E s) :
    wpAny (model prog w) A (eval (.Subscript value slice pos) env) Q E s := by
  refine Subscript_ (wpAny_mono h (fun o s₁ h₁ => wpAny_mono h₁ (fun i s₂ h₂ => ?_) fun _ _ x => x) fun _ _ x => x)
  obtain ⟨hT, h₂⟩ := h₂
  unfold subscriptTail
  refine wpAny_bind ?_
  rw [getitemInPython_of_ne hT.not_modules]
  refine wpAny_bind (wpAny_specialOf hT hl ?_)
  have fin : wpAny (model prog w) A (subscripted slice false o i) (fun r s₃ => wpAny (model prog w) A (letTemporaryGo value o r >>= fun _ => pure r) Q E s₃) E s₂ := by
    rw [hs o i]
    exact wpAny_operating (wpAny_mono h₂ (fun r s₃ h₃ => wpAny_bind (wpAny_letTemporaryGo (wpAny_pure h₃))) fun _ _ x => x)
  first
    | exact wpAny_pure (wpAny_bind fin)
    | exact wpAny_bind (wpAny_pure (wpAny_bind fin))
    | exact wpAny_bind fin

theorem dict_typeIs {X : Cx} {pins : List (Addr × Obj)} {σ : St} {H : Hp} {s : Shared} {a : Addr} {y : V} {o : Option V} (I : Inv X pins σ H s) (g : DGet H a y o) : s.TypeIs (.ref a) "dict" := by
  rcases g with ⟨kvs, k, e, _, _⟩ | ⟨kvs, k, b, e, _, _, _⟩
  · obtain ⟨_, _, vs, _, dd⟩ := dk_rd I.hok e
    exact dd.typeIs
  · obtain ⟨_, _, xs, _, dd⟩ := dt_rd I.hok e
    exact dd.typeIs
/-- d[y] -/
def tDGet (td ty : TE) : TE := fun σ H Q => td σ H fun x H1 => ty σ H1 fun y H2 => ∃ a v, x = .ref a ∧ DGet H2 a y (some v) ∧ Q v H2
/-- d[y] = v -/
def sDPut (td ty tv : TE) : TS := fun D σ H => tv σ H fun v H1 => td σ H1 fun x H2 => ty σ H2 fun y H3 => ∃ a H4, x = .ref a ∧ DPut H3 a y v H4 ∧ D.nx σ H4
section
variable {X : Cx} {o i e value : Expr} {pos pos' tpos : Pos} {td ty tv : TE}
theorem pe_dget (hu : X.A.units + 1 < cLine) (ho : PE X o td) (hi : PE X i ty) (hs : NoSl i) : PE X (.Subscript o i pos) (tDGet td ty) := by
  intro pins s σ H Q I h
  refine subD_of PySem.F.slot_dict_getitem.lookup hs (thn (ho pins s σ H _ I h) fun u s1 ⟨x, H1, I1, rx, q1⟩ => thn (hi pins s1 σ H1 _ I1 q1) fun iv s2 ⟨y, H2, I2, ry, a, v, ex, g, q2⟩ => ?_)
  subst ex
  obtain rfl : u = Value.ref a := rx
  exact ⟨dict_typeIs I2 g, d_getItem hu I2 g ry fun w' s3 I3 rw' => ⟨v, H2, I3, rw', q2⟩⟩
theorem ps_dput (hu : X.A.units + 1 < cLine) (ho : PE X o td) (hi : PE X i ty) (hv : PE X value tv) (hs : swapsWith value (some (.Subscript o i pos')) pos.line X.env = pure false) :
    PS X (.Assign [.Subscript o i pos'] value pos) (sDPut td ty tv) := by
  intro pins s σ H D I h
  refine wpAny_Assign_Subscript (thn (hv pins s σ H _ I h) fun r s1 ⟨v, H1, I1, rv, q1⟩ => thn (ho pins s1 σ H1 _ I1 q1) fun u s2 ⟨x, H2, I2, rx, q2⟩ => thn (hi pins s2 σ H2 _ I2 q2) fun iv s3 ⟨y, H3, I3, ry, a, H4, ex, g, q3⟩ => ?_) hs
  subst ex
  obtain rfl : u = Value.ref a := rx
  exact d_setItem hu I3 g ry rv fun s4 I4 => ⟨σ, H4, I4, q3⟩
end


/-! ### displays -/
theorem dt_empty {P : Program} {w : World} {H : Hp} (h : Heap) (hb : sysModules < h.objs.size) : ObjOk P w H (h.push { cls := .type "dict", data := .dict #[] }) h.objs.size (.dT []) :=
  ⟨Nat.zero_le _, beq_eq_false_iff_ne.mpr (Ne.symm (Nat.ne_of_lt hb)), [], .nil, _, #[], 0, Heap.get?_push_size _ rfl, ⟨rfl, rfl, rfl⟩, rfl, rfl, List.nodup_nil⟩
def tDNewT : TE := fun _ H Q => ∀ p, H p = none → Q (.ref p) (upd H p (.dT []))
section
variable {X : Cx} {pos : Pos}
theorem pe_dnewT : PE X (.Dict [] [] pos) tDNewT := fun pins s σ H Q I h =>
  wpAny_Dict_empty ⟨.ref s.heap.objs.size, _, I.laid (a := s.heap.objs.size) (o := .dT []) (t' := s.toks) (fun _ _ q => Heap.get?_push_of_some _ q) (Nat.le_refl _) (dt_empty s.heap I.big), rfl, h _ (I.hok.fresh (Nat.le_refl _))⟩
end

/-! ### methods -/
/-- a method call o.m(e) of a built-in, with one argument: what must be seen of the text -/
structure M1 (X : Cx) (o : Expr) (m : Str) (apos : Pos) (e : Expr) (cpos : Pos) : Prop where
  base : attributeBase o m X.env (eval o X.env) = eval o X.env
  few : ((backTo cpos (starEach [e] X.env)).all (fun x => !x.1) && (backToKw cpos (keywordEach [] X.env)).all (fun x => x.1.isSome)
    && decide (([e] : List Expr).length + ([] : List Keyword).length + (if ([] : List Keyword).isEmpty then 0 else 1) < 30)) = true
  line : (apos.endLine == cpos.line) = true
  trees : backTo cpos (starEach [e] X.env) = [(false, eval e X.env)]
structure M2 (X : Cx) (o : Expr) (m : Str) (apos : Pos) (e f : Expr) (cpos : Pos) : Prop where
  base : attributeBase o m X.env (eval o X.env) = eval o X.env
  few : ((backTo cpos (starEach [e, f] X.env)).all (fun x => !x.1) && (backToKw cpos (keywordEach [] X.env)).all (fun x => x.1.isSome)
    && decide (([e, f] : List Expr).length + ([] : List Keyword).length + (if ([] : List Keyword).isEmpty then 0 else 1) < 30)) = true
  line : (apos.endLine == cpos.line) = true
  trees : backTo cpos (starEach [e, f] X.env) = [(false, eval e X.env), (false, eval f X.env)]

/-- a is a dict, whatever its keys -/
def IsD (H : Hp) (a : Addr) : Prop := (∃ kvs, Rd H a (.dK kvs)) ∨ ∃ kvs, Rd H a (.dT kvs)
theorem isD_at {X : Cx} {pins : List (Addr × Obj)} {σ : St} {H : Hp} {s : Shared} {a : Addr} (I : Inv X pins σ H s) (d : IsD H a) :
    s.TypeIs (.ref a) "dict" ∧ (∀ b, Value.ref a = .ref b → ∃ ob, s.heap.get? b = some ob ∧ ob.dict = none) ∧ (a == sysModules) = false := by
  rcases d with ⟨kvs, e⟩ | ⟨kvs, e⟩
  · obtain ⟨_, hd, vs, _, dd⟩ := dk_rd I.hok e
    refine ⟨dd.typeIs, fun b q => ?_, hd⟩
    cases q
    obtain ⟨ob, _, _, h1, h2, _⟩ := dd
    exact ⟨ob, h1, h2.2.1⟩
  · obtain ⟨_, hd, xs, _, dd⟩ := dt_rd I.hok e
    refine ⟨dd.typeIs, fun b q => ?_, hd⟩
    cases q
    obtain ⟨ob, _, _, h1, h2, _⟩ := dd
    exact ⟨ob, h1, h2.2.1⟩

section
variable {X : Cx} {pins : List (Addr × Obj)} {σ : St} {H : Hp} {s : Shared} {a : Addr} {y d : V} {u r : Value} {o : Option V} {A : Around} {E : Value → Shared → Prop}
/-- d.get(y, x) -/
theorem d_get2 {Q : Value → Shared → Prop} (hu : A.units + 1 < cLine) (I : Inv X pins σ H s) (g : DGet H a y o) (ry : RelV y u) (rd : RelV d r) (h : ∀ w' s', Inv X pins σ H s' → RelV (o.getD d) w' → Q w' s') :
    wpAny (model X.prog X.w) A (call (.builtin "dict.get") [.ref a, u, r]) Q E s := by
  rcases g with ⟨kvs, k, e, ey, l⟩ | ⟨kvs, k, b, e, ey, eb, l⟩
  · subst ey
    obtain ⟨z, hd, vs, rel, dd⟩ := dk_rd I.hok e
    refine call_meetsIn PySem.F.slot_dict_get dd.typeIs PySem.F.entry_dict_get (PySem.F.args_dict_get_3 _ _ _) (meets_dict_get_default (mixKind X.prog X.w) a (kV_is ry) hd r) ⟨_, dd.mapOf, h _ _ (I.tok _) ?_⟩
    rw [l]
    exact (rel.val k).getD rd
  · subst ey
    cases (show u = Value.ref b from ry)
    obtain ⟨z, hd, xs, rel, dd⟩ := dt_rd I.hok e
    refine call_meetsIn PySem.F.slot_dict_get dd.typeIs PySem.F.entry_dict_get (PySem.F.args_dict_get_3 _ _ _) (meetsH_dict_get_default (tupleKind (mixKind X.prog X.w)) a b hd r) ⟨tupleKind_room_in1 hu, k, xs, key_of I.hok eb, dd, h _ _ (I.tok _) ?_⟩
    rw [l]
    exact (rel.val k).getD rd
end

def tDGet2 (td ty tx : TE) : TE := fun σ H Q => td σ H fun x H1 => ∃ a, x = .ref a ∧ IsD H1 a ∧ ty σ H1 fun y H2 => tx σ H2 fun z H3 => ∃ o, DGet H3 a y o ∧ Q (o.getD z) H3
section
variable {X : Cx} {o e f : Expr} {apos cpos : Pos} {td ty tx : TE}
theorem pe_dget2 (hu : X.A.units + 1 < cLine) (ho : PE X o td) (he : PE X e ty) (hf : PE X f tx) (m : M2 X o "get" apos e f cpos) : PE X (.Call (.Attribute o "get" apos) [e, f] [] cpos) (tDGet2 td ty tx) := by
  intro pins s σ H Q I h
  refine wpAny_Call_method m.base m.few m.line PySem.F.plainAttrs_dict PySem.F.slot_dict_get PySem.F.type_dict_get (thn (ho pins s σ H _ I h) fun u s1 ⟨x, H1, I1, rx, a, ex, d, q1⟩ => ?_)
  subst ex
  obtain rfl : u = Value.ref a := rx
  obtain ⟨t1, t2, _⟩ := isD_at I1 d
  refine ⟨t1, t2, ?_⟩
  rw [m.trees]
  refine Calls.callWith_builtin rfl (Calls.evalArgs_plain (Calls.spliced_cons (thn (he pins s1 σ H1 _ I1 q1) fun iv s2 ⟨y, H2, I2, ry, q2⟩ =>
    Calls.spliced_cons (thn (hf pins s2 σ H2 _ I2 q2) fun fv s3 ⟨z, H3, I3, rz, ov, g, q3⟩ => Calls.spliced_nil ?_))))
  exact d_get2 hu I3 g ry rz fun w' s4 I4 rw' => ⟨_, H3, I4, rw', q3⟩
end

/-! ### dict(d): a copy -/
section
variable {X : Cx} {pins : List (Addr × Obj)} {σ : St} {H : Hp} {s : Shared} {a : Addr} {kvs : List (Key × V)} {A : Around} {E : Value → Shared → Prop}
end


section
variable {X : Cx} {pins : List (Addr × Obj)} {σ : St} {H : Hp} {s : Shared} {a : Addr} {y : V} {u : Value} {A : Around} {E : Value → Shared → Prop}
end
end L2

namespace Att
open PySem PySem.W PySem.Calls PyProof.Rows

/-! ### the script -/



/-! ### the attachment: holds_open's last premise (the goal 'hc' behind k_head) from a wpAny of the law's body -/



/-! ### rules over ANY heap (no ledger) from facts about the written part K: the library's own take a ledger (News) for what they write -/
section
variable {prog : Program} {w : World} {A : Around} {E : Value → Shared → Prop} {s : Shared} {K : Frag}





/-! the whole heap as the ledger: makes every rule that writes through a ledger a rule over any heap -/

end
end Att

namespace L2
open PySem PySem.Spec PyProof.Rows



end L2

namespace L2
open PySem PySem.Spec PyProof.Rows


end L2

/- THE LAST THEOREM (shape; LID, My.* are yours):
   My.Adr: a structure of the addresses that your layer names (classes, functions); My.Txt K t: a structure (Prop) of the equations over K;
   My.txt_mk : {K} {implicit addresses ..} (e1 : nsIn K mainGlobals "law" = some (some (.ref f))) (e2 : K.lookup f = some ⟨oc, od, .func (fnOf "law" "law" params body scope dV kV doc pm an cdv ct), sl⟩) (e3 : codeIn K cdv "law" = true) .. : ∃ t, My.Txt K t

set_option maxRecDepth 100000 in
set_option maxHeartbeats 0 in
(the tactic k_is has no namespace: write k_is) -/

/-! SHORT WORDS over the layer: a def of the text, its body, what a loop and a test want. -/
namespace L2
open PySem PySem.Spec PyProof.Rows

/-! ### the text by places -/

/-! ### no exception leaves a def -/

/-! ### a def (or method) of the text as it stands behind the top -/
section
variable {P : Program} {w : World} {K : PySem.W.Frag} {mg : Str → Option Value} {base : Heap}
end

/-! ### expressions in short: the name that stands in the i-th slot -/
section
variable {X : Cx}
end

/-! ### tests -/

/-! ### heaps -/

/-! ### a dict's pairs: keys that differ -/
section
variable {κ : Type} [DecidableEq κ]
end
end L2

/-! OWN RULES over the layer: comprehensions -/
namespace L2
open PySem PySem.Spec PyProof.Rows

/-- the cells that a comprehension's block sees -/
def clOf (scope : Scope) (env : Env) : List (Str × Addr) :=
  (scope.names.filterMap fun p => if p.2 = NameKind.free then (env.cells.lookup p.1).map fun c => (p.1, c) else none).reverse

theorem lookup_memOf {α : Type} {x : Str} {c : α} : ∀ {l : List (Str × α)}, l.lookup x = some c → (x, c) ∈ l
  | [], h => by simp at h
  | (y, d) :: r, h => by
    rw [List.lookup_cons] at h
    cases e : x == y with
    | true =>
      rw [e] at h
      have h' : d = c := Option.some.inj h
      rw [h', eq_of_beq e]
      exact List.mem_cons_self
    | false =>
      rw [e] at h
      exact List.mem_cons_of_mem _ (lookup_memOf h)
theorem lookup_ofMem {α : Type} {x : Str} {c : α} : ∀ {l : List (Str × α)}, (x, c) ∈ l → ∃ d, l.lookup x = some d
  | [], h => by simp at h
  | (y, d) :: r, h => by
    rw [List.lookup_cons]
    cases e : x == y with
    | true => exact ⟨d, rfl⟩
    | false =>
      rcases List.mem_cons.mp h with z | z
      · have z1 : x = y := congrArg Prod.fst z
        rw [z1, beq_self_eq_true] at e
        cases e
      · exact lookup_ofMem z

theorem mem_clOf {scope : Scope} {env : Env} {x : Str} {c : Addr} : (x, c) ∈ clOf scope env ↔ (x, NameKind.free) ∈ scope.names ∧ env.cells.lookup x = some c := by
  unfold clOf
  rw [List.mem_reverse, List.mem_filterMap]
  constructor
  · rintro ⟨⟨y, k⟩, hm, e⟩
    by_cases hk : k = NameKind.free
    · subst hk
      rw [if_pos rfl] at e
      cases q : env.cells.lookup y with
      | none => rw [q] at e; cases e
      | some d =>
        rw [q] at e
        have e' : (y, d) = (x, c) := Option.some.inj e
        cases e'
        exact ⟨hm, q⟩
    · rw [if_neg hk] at e
      cases e
  · rintro ⟨hm, q⟩
    exact ⟨(x, NameKind.free), hm, by rw [if_pos rfl]; rw [q]; rfl⟩
theorem clOf_env {scope : Scope} {env : Env} {x : Str} {c : Addr} (h : (clOf scope env).lookup x = some c) : env.cells.lookup x = some c := (mem_clOf.mp (lookup_memOf h)).2
theorem clOf_has {scope : Scope} {env : Env} {x : Str} {c : Addr} (hm : (x, NameKind.free) ∈ scope.names) (h : env.cells.lookup x = some c) : (clOf scope env).lookup x = some c := by
  obtain ⟨d, e⟩ := lookup_ofMem (mem_clOf.mpr ⟨hm, h⟩)
  rw [e, ← h]
  exact (clOf_env e).symm

theorem closure_go {env : Env} : ∀ (names : List (Str × NameKind)) (cs : List (Str × Addr)), (∀ p ∈ names, p.2 = .free → ∃ c, env.cells.lookup p.1 = some c) →
    (forIn names cs fun (x : Str × NameKind) (cs : List (Str × Addr)) => (match x with
      | (name, kind) => if (kind == .free) = true then (do let a ← cellOf env name; pure (ForInStep.yield ((name, a) :: cs))) else pure (ForInStep.yield cs) : Sem (ForInStep (List (Str × Addr)))))
      = pure ((names.filterMap fun p => if p.2 = NameKind.free then (env.cells.lookup p.1).map fun c => (p.1, c) else none).reverse ++ cs)
  | [], cs, _ => rfl
  | (n, k) :: r, cs, h => by
    rw [List.forIn_cons]
    have hr : ∀ p ∈ r, p.2 = .free → ∃ c, env.cells.lookup p.1 = some c := fun p hp => h p (List.mem_cons_of_mem _ hp)
    by_cases hk : k = NameKind.free
    · subst hk
      obtain ⟨c, hc⟩ := h (n, .free) List.mem_cons_self rfl
      have e1 : cellOf env n = pure c := by unfold cellOf; rw [show env.cells.lookup n = some c from hc]
      show ((do let a ← cellOf env n; pure (ForInStep.yield ((n, a) :: cs)) : Sem (ForInStep (List (Str × Addr)))) >>= _) = _
      rw [e1]
      simp only [pure_bind]
      rw [closure_go r ((n, c) :: cs) hr, List.filterMap_cons, if_pos rfl, show env.cells.lookup n = some c from hc]
      simp
    · have hb : (k == NameKind.free) = false := by simpa using hk
      show ((if (k == NameKind.free) = true then (do let a ← cellOf env n; pure (ForInStep.yield ((n, a) :: cs))) else pure (ForInStep.yield cs) : Sem (ForInStep (List (Str × Addr)))) >>= _) = _
      rw [hb, if_neg Bool.false_ne_true]
      simp only [pure_bind]
      rw [closure_go r cs hr, List.filterMap_cons, if_neg hk]
theorem closure_is {scope : Scope} {env : Env} (h : ∀ p ∈ scope.names, p.2 = .free → ∃ c, env.cells.lookup p.1 = some c) : closureFor scope env = pure (clOf scope env) := by
  have e := closure_go scope.names [] h
  rw [List.append_nil] at e
  unfold closureFor clOf
  simp only [bind_pure]
  exact e

theorem lookup_relabel {env : Env} {x : Str} : ∀ {names : List (Str × NameKind)} {k : NameKind},
    (names.map fun (n, k) => if (k == NameKind.free && env.scope.kind == .function && env.kindOf n == some .cell) then (n, NameKind.cell) else (n, k)).lookup x = some k →
      ∃ k', (x, k') ∈ names ∧ (k' = k ∨ (k' = .free ∧ k = .cell))
  | [], _, h => by simp at h
  | (n, j) :: r, k, h => by
    by_cases hc : (j == NameKind.free && env.scope.kind == .function && env.kindOf n == some .cell) = true
    · rw [List.map_cons] at h
      have h' : List.lookup x ((if (j == NameKind.free && env.scope.kind == .function && env.kindOf n == some .cell) = true then (n, NameKind.cell) else (n, j)) :: _) = some k := h
      rw [if_pos hc, List.lookup_cons] at h'
      cases e : x == n with
      | true =>
        rw [e] at h'
        have h2 : NameKind.cell = k := Option.some.inj h'
        have hj : j = NameKind.free := by
          have := hc
          rw [Bool.and_eq_true, Bool.and_eq_true] at this
          exact eq_of_beq this.1.1
        exact ⟨j, by rw [eq_of_beq e]; exact List.mem_cons_self, .inr ⟨hj, h2.symm⟩⟩
      | false =>
        rw [e] at h'
        obtain ⟨k', hm, q⟩ := lookup_relabel h'
        exact ⟨k', List.mem_cons_of_mem _ hm, q⟩
    · rw [List.map_cons] at h
      have h' : List.lookup x ((if (j == NameKind.free && env.scope.kind == .function && env.kindOf n == some .cell) = true then (n, NameKind.cell) else (n, j)) :: _) = some k := h
      rw [if_neg hc, List.lookup_cons] at h'
      cases e : x == n with
      | true =>
        rw [e] at h'
        exact ⟨j, by rw [eq_of_beq e]; exact List.mem_cons_self, .inl (Option.some.inj h')⟩
      | false =>
        rw [e] at h'
        obtain ⟨k', hm, q⟩ := lookup_relabel h'
        exact ⟨k', List.mem_cons_of_mem _ hm, q⟩

/-- what is asked of a comprehension's own names, over the names N and the scope sc of the def around it: N' the block's names, ix where each stands outside -/
def compOk (N : List Str) (sc scope : Scope) (N' : List Str) (ix : List (Option Nat)) : Bool :=
  scope.kind == .function && scope.names.all (fun y => y.2 != .cell) && scope.names.all (fun y => y.2 != .local || scope.names.lookup y.1 == some .local) &&
  scope.names.all (fun y => y.2 != .free || sc.names.lookup y.1 == some .cell || sc.names.lookup y.1 == some .free) &&
  decide (ix.length = N'.length) && decide N'.Nodup &&
  (N'.zip ix).all fun p => match p.2 with
    | none => scope.names.all fun y => y.1 != p.1 || y.2 == .local
    | some k => N[k]? == some p.1 && scope.names.lookup p.1 == some .free && scope.names.all fun y => y.1 != p.1 || y.2 == .free
structure CompOk (N : List Str) (sc scope : Scope) (N' : List Str) (ix : List (Option Nat)) : Prop where
  kind : scope.kind = .function
  nocell : ∀ y ∈ scope.names, y.2 ≠ .cell
  names : ∀ y ∈ scope.names, y.2 = .local → scope.names.lookup y.1 = some .local
  frees : ∀ y ∈ scope.names, y.2 = .free → sc.names.lookup y.1 = some .cell ∨ sc.names.lookup y.1 = some .free
  len : ix.length = N'.length
  nd : N'.Nodup
  own : ∀ (i : Nat) (x : Str), N'[i]? = some x → ix[i]? = some none → ∀ y ∈ scope.names, y.1 = x → y.2 = .local
  out : ∀ (i : Nat) (x : Str) (k : Nat), N'[i]? = some x → ix[i]? = some (some k) → N[k]? = some x ∧ (x, NameKind.free) ∈ scope.names ∧ ∀ y ∈ scope.names, y.1 = x → y.2 = .free
theorem compOk_is {N : List Str} {sc scope : Scope} {N' : List Str} {ix : List (Option Nat)} (h : compOk N sc scope N' ix = true) : CompOk N sc scope N' ix := by
  unfold compOk at h
  simp only [Bool.and_eq_true, List.all_eq_true, Bool.or_eq_true, bne_iff_ne, beq_iff_eq, decide_eq_true_eq, ne_eq] at h
  obtain ⟨⟨⟨⟨⟨⟨h1, h2⟩, h3⟩, h4⟩, h5⟩, h6⟩, h7⟩ := h
  have zipAt : ∀ {i : Nat} {x : Str} {o : Option Nat}, N'[i]? = some x → ix[i]? = some o → (x, o) ∈ N'.zip ix := fun {i x o} a b => by
    refine List.mem_of_getElem? (i := i) ?_
    rw [List.getElem?_zip_eq_some]
    exact ⟨a, b⟩
  refine ⟨h1, fun y hy => h2 y hy, fun y hy e => ?_, fun y hy e => ?_, h5, h6, fun i x a b y hy e => ?_, fun i x k a b => ?_⟩
  · rcases h3 y hy with z | z
    · exact absurd e z
    · exact z
  · rcases h4 y hy with (z | z) | z
    · exact absurd e z
    · exact .inl z
    · exact .inr z
  · have q := h7 _ (zipAt a b)
    simp only [List.all_eq_true, Bool.or_eq_true, bne_iff_ne, beq_iff_eq, ne_eq] at q
    rcases q y hy with z | z
    · exact absurd e z
    · exact z
  · have q := h7 _ (zipAt a b)
    simp only [Bool.and_eq_true, List.all_eq_true, Bool.or_eq_true, bne_iff_ne, beq_iff_eq, ne_eq] at q
    obtain ⟨⟨q1, q2⟩, q3⟩ := q
    refine ⟨q1, lookup_memOf q2, fun y hy e => ?_⟩
    rcases q3 y hy with z | z
    · exact absurd e z
    · exact z

/-- the block's values at its start: what its free names hold outside -/
def blkSt (ix : List (Option Nat)) (σ : St) : St := ix.map fun o => match o with
  | some k => (σ[k]?).join
  | none => none
/-- the context of a comprehension's block -/
def blk (X : Cx) (scope : Scope) (N' : List Str) (C : Addr) (fp : List Addr) (s₂ : Shared) (H₂ : Hp) : Cx :=
  { X with N := N', s₀ := s₂, H₀ := H₂, env := compEnvC scope (clOf scope X.env) C X.env, outer := X.stack, stack := X.stack, ex := fp, fn := fun _ => false, pn := [], xe := fun _ _ => False }

abbrev lstO (its : List Value) (n : Nat) : Obj := { cls := .type "list", data := .seq its.toArray n }

section
variable {X : Cx} {scope : Scope} {N' : List Str} {ix : List (Option Nat)} {C : Addr} {fp : List Addr} {s₂ : Shared} {H₂ : Hp} {pins : List (Addr × Obj)} {σ : St}

theorem blk_cells (I : Inv X pins σ H₂ s₂) {x : Str} {c : Addr} (h : (clOf scope X.env).lookup x = some c) : c < s₂.heap.objs.size := by
  obtain ⟨v, q⟩ := I.cell x c (clOf_env h)
  exact q.lt
theorem blk_ok (I : Inv X pins σ H₂ s₂) (co : CompOk X.N X.env.scope scope N' ix) (hC : @LE.le Nat _ s₂.heap.objs.size C) (hf : ∀ b ∈ fp, FpOk X pins H₂ b) (hlt : ∀ b ∈ fp, b < s₂.heap.objs.size) : (blk X scope N' C fp s₂ H₂).Ok where
  mod := I.ok.mod
  kind := co.kind
  glob := I.ok.glob
  blt := I.ok.blt
  above := hC
  inj := fun x y c e1 e2 => I.ok.inj x y c (clOf_env e1) (clOf_env e2)
  has := fun x h => by
    have h1 : ∃ k, (relabel scope X.env).names.lookup x = some k ∧ (k = .cell ∨ k = .free) := by
      rcases h with h | h
      · exact ⟨_, h, .inl rfl⟩
      · exact ⟨_, h, .inr rfl⟩
    obtain ⟨k, h1, h2⟩ := h1
    obtain ⟨k', hm, q⟩ := lookup_relabel h1
    have hk : k' = .free := by
      rcases q with q | ⟨q, _⟩
      · rcases h2 with z | z
        · exact absurd (q.trans z) (co.nocell _ hm)
        · exact q.trans z
      · exact q
    rw [hk] at hm
    obtain ⟨c, hc⟩ := I.ok.has x (co.frees _ hm rfl)
    exact ⟨c, clOf_has hm hc⟩
  cab := fun x c h => by
    have h' : false = true := h
    cases h'
  hd := I.ok.hd
  frames := I.ok.frames
  stk := .inl rfl
  exf := fun b hb => ⟨Nat.ne_of_lt (Nat.lt_of_lt_of_le (hlt b hb) hC), fun x c e => (hf b hb).2.2.2.2.1 x c (clOf_env e)⟩
  bs := I.bs
  bsz := Nat.le_trans I.ok.bsz I.sz
  noex := fun b o e hb => by
    rcases (hf b hb).2.2.2.1 with z | z
    · exact I.ok.noex b o e z
    · exact absurd (Nat.lt_of_lt_of_le (Heap.lt_size (I.ok.bs b o e).1) z) (Nat.lt_irrefl _)
  exfs := fun b hb z => by
    rcases List.mem_cons.mp (I.stkSub b z) with e | e
    · exact (hf b hb).2.1 e
    · exact (hf b hb).2.2.1 e
  funs := I.stack
  frf := I.stkFree
theorem blk_nofs (I : Inv X pins σ H₂ s₂) {b : Addr} (h : s₂.heap.objs.size ≤ b) : b ∉ frs X.stack := fun z => by
  rcases List.mem_cons.mp (I.stkSub b z) with e | e
  · rw [e] at h; exact absurd (Nat.lt_of_lt_of_le I.lt h) (Nat.lt_irrefl _)
  · exact I.nofs h e
/-- the block begins: the accumulator (at D) stands pinned -/
theorem blk_start (I : Inv X pins σ H₂ s₂) (co : CompOk X.N X.env.scope scope N' ix) {D : Addr} {h₁ : Heap} {t' : Nat} (hD : @Eq Nat D s₂.heap.objs.size) (hC : @Eq Nat C (s₂.heap.objs.size + 1)) (hf : ∀ b ∈ fp, FpOk X pins H₂ b) (hlt : ∀ b ∈ fp, b < s₂.heap.objs.size)
    (old : ∀ b o, s₂.heap.get? b = some o → h₁.get? b = some o) (hacc : h₁.get? D = some (lstO [] 0)) {m : Str → Option Value} (hns : h₁.Ns C m) :
    Inv (blk X scope N' C fp s₂ H₂) [(D, lstO [] 0)] (blkSt ix σ) H₂ { s₂ with heap := h₁, toks := t' } where
  ok := blk_ok I co (by omega) hf hlt
  os := rfl
  bare := I.bare
  base := Un.kept old
  loc := by
    refine ⟨m, hns, fun i x v e1 e2 e3 => ?_⟩
    unfold blkSt at e2
    rw [List.getElem?_map] at e2
    cases q : ix[i]? with
    | none => rw [q] at e2; cases e2
    | some o =>
      rw [q] at e2
      cases o with
      | none => cases e2
      | some k =>
        have e2' : (σ[k]?).join = some v := Option.some.inj e2
        have e2'' : σ[k]? = some (some v) := by
          cases z : σ[k]? with
          | none => rw [z] at e2'; cases e2'
          | some o => rw [z] at e2'; exact congrArg some e2'
        obtain ⟨o1, o2, o3⟩ := co.out i x k e1 q
        have hk : X.env.kindOf x = some .cell ∨ X.env.kindOf x = some .free := co.frees _ o2 rfl
        have vis : Vis X.env.scope x := .inr hk
        obtain ⟨m0, _, hl⟩ := I.loc
        obtain ⟨u, r, l⟩ := hl k x v o1 e2'' vis
        refine ⟨u, r, ?_⟩
        rcases l with ⟨l, _⟩ | ⟨_, c, ec, hcell⟩
        · rcases hk with z | z
          · rw [z] at l; cases l
          · rw [z] at l; cases l
        · refine .inr ⟨?_, c, clOf_has o2 ec, ?_⟩
          · rcases e3 with z | z | z
            · obtain ⟨k', hm, q⟩ := lookup_relabel z
              rcases q with q | ⟨_, q⟩
              · have := o3 _ hm rfl
                rw [show k' = NameKind.local from q] at this
                cases this
              · cases q
            · exact .inl z
            · exact .inr z
          · obtain ⟨o, ho, hd⟩ := hcell
            exact ⟨o, old _ _ ho, hd⟩
  cell := fun x c e => by
    obtain ⟨v, o, ho, hd⟩ := I.cell x c (clOf_env e)
    exact ⟨v, o, old _ _ ho, hd⟩
  free := I.hok.fresh (by show @LE.le Nat _ s₂.heap.objs.size C; omega)
  freeC := fun x c e => I.freeC x c (clOf_env e)
  pin := fun p hp => by
    have e : p = (D, lstO [] 0) := by simpa [blk] using hp
    subst e
    refine ⟨hacc, I.hok.fresh (by show @LE.le Nat _ s₂.heap.objs.size D; omega), by show ¬ @Eq Nat D C; omega, blk_nofs I (by show @LE.le Nat _ s₂.heap.objs.size D; omega), fun v z => ?_⟩
    have z' : Data.seq _ _ = Data.cell v := z
    cases z'
  hok := I.hok.kept old
  len := by unfold blkSt; rw [List.length_map]; exact co.len
/-- the block is left: the accumulator is tracked -/
theorem blk_leave (I : Inv X pins σ H₂ s₂) {D : Addr} (hD : @Eq Nat D s₂.heap.objs.size) (hf : ∀ b ∈ fp, FpOk X pins H₂ b) {ys : List V} {its : List Value} {n : Nat} {σ' : St} {H' : Hp} {s' : Shared}
    (I' : Inv (blk X scope N' C fp s₂ H₂) [(D, lstO its n)] σ' H' s') (hv : Vals ys its) (hz : ys.length ≤ sizeLine) : Inv X pins σ (upd H' D (.lst ys)) s' := by
  obtain ⟨dp, dn, _, _, _⟩ := I'.pin (D, lstO its n) (by simp)
  have dp' : s'.heap.get? D = some (lstO its n) := dp
  have dn' : H' D = none := dn
  have u := I'.base
  have ne : ∀ b o, s₂.heap.get? b = some o → b ≠ D := fun b o e z => by
    have h1 : @LT.lt Nat _ b s₂.heap.objs.size := Heap.lt_size e
    have h2 : @Eq Nat b D := z
    omega
  have neH : ∀ b o, H₂ b = some o → b ≠ D := fun b o e z => by
    have h1 : @LT.lt Nat _ b s₂.heap.objs.size := I.hok.lt e
    have h2 : @Eq Nat b D := z
    omega
  refine I.call' (ch := fp) I'.os ⟨u.keep, u.slot, fun b o e q hb => ?_, u.there, fun b xs q => ?_, fun b o xs q => ?_, fun b ps q => ?_⟩ (fun b o e => ?_) I'.bare fun b hb => ?_
  · rw [upd_ne (ne b o e)]
    exact u.free b o e q hb
  · rw [upd_ne (neH b _ q)]
    exact u.tups b xs q
  · rw [upd_ne (neH b _ q)]
    exact u.frzs b o xs q
  · rw [upd_ne (neH b _ q)]
    exact u.tbls b ps q
  · by_cases hb : b = D
    · subst hb
      rw [upd_same] at e
      cases e
      exact ⟨hz, its, n, hv, dp'⟩
    · rw [upd_ne hb] at e
      exact (I'.hok b o e).stay (fun c v _ q => q) (fun c q => by rw [upd_ne (ne_of_none q dn')]; exact q) fun c xs q => by rw [upd_ne (ne_of_none q dn')]; exact q
  · obtain ⟨_, f1, _, f3, f4, f5⟩ := hf b hb
    exact ⟨f3, f1, f4, f5⟩
end
end L2
namespace L2
open PySem PySem.Spec PyProof.Rows
abbrev NoE : Value → Shared → Prop := fun _ _ => False
section
variable {prog : Program} {w : World} {A : Around} {R : Result → Shared → Prop} {s : Shared}
/-- a comprehension's turns, with the step ahead of the store -/
theorem compLoop_own {elt target iter : Expr} {ifs : List Expr} {scope : Scope} {pos : Pos} {it acc : Value} {env : Env} (I : Nat → Shared → Prop)
    (turn : ∀ n s, I n s → wpAny (model prog w) A (pyNext it) (fun r s₁ => match r with
      | none => R (.ok .next) s₁
      | some v => wpAny (model prog w) A (letOwnedTupleGo target it v) (fun _ s₁ => wpAny (model prog w) A (assign target env v) (fun _ s₂ =>
          wpAny (model prog w) A (forIn ifs true fun c r => if r = true then do let ok ← isTrue c env (eval c env); pure (ForInStep.yield ok) else pure (ForInStep.yield r)) (fun ok s₃ =>
            if ok = true then wpAny (model prog w) A (eval elt env) (fun x s₄ =>
              wpAny (model prog w) A (call (.builtin "list.append") [acc, x]) (fun _ s₅ => ∃ m, m < n ∧ I m s₅) NoE s₄) NoE s₃
            else ∃ m, m < n ∧ I m s₃) NoE s₂) NoE s₁) NoE s₁) NoE s)
    (n : Nat) (h : I n s) : codeAny (model prog w) A (.compLoop (.ListComp elt [⟨target, iter, ifs, 0⟩] scope pos) 0 it acc env) R s := by
  refine codeAny_loop rfl I (fun n s hI => ?_) n h
  show wpAny _ A ((compTurn (.ListComp elt [⟨target, iter, ifs, 0⟩] scope pos) 0 it acc env).onRaise (fun x => do noteFrame x env; theTreesLotGoes x)) _ _ s
  refine wpAny_noted ?_
  rw [compTurn_list]
  refine wpAny_bind (wpAny_standAt (wpAny_bind (wpAny_mono (turn n s hI) (fun r s₁ h₁ => ?_) fun _ _ h' => h'.elim)))
  cases r with
  | none => exact wpAny_pure h₁
  | some v =>
    refine wpAny_bind (wpAny_mono h₁ (fun _ s₁ h₁ => ?_) fun _ _ h' => h'.elim)
    refine wpAny_bind (wpAny_mono h₁ (fun _ s₂ h₂ => wpAny_bind (wpAny_mono h₂ (fun ok s₃ h₃ => ?_) fun _ _ h' => h'.elim)) fun _ _ h' => h'.elim)
    cases ok with
    | false => exact wpAny_pure ⟨rfl, h₃⟩
    | true =>
      exact wpAny_bind (wpAny_bind (wpAny_mono h₃ (fun x s₄ h₄ => wpAny_bind (wpAny_mono h₄ (fun _ s₅ h₅ => wpAny_pure (wpAny_pure ⟨rfl, h₅⟩)) fun _ _ h' => h'.elim)) fun _ _ h' => h'.elim))
end

/-- the tests of a comprehension -/
def PIf (X : Cx) (ifs : List Expr) (t : TT) : Prop :=
  ∀ (pins : List (Addr × Obj)) (s : Shared) (σ : St) (H : Hp) (Q : Bool → Hp → Prop), Inv X pins σ H s → t σ H Q →
    wpAny (model X.prog X.w) X.A (forIn ifs true fun c r => if r = true then do let ok ← isTrue c X.env (eval c X.env); pure (ForInStep.yield ok) else pure (ForInStep.yield r)) (TP X pins σ Q) X.xe s
def tYes : TT := fun _ H Q => Q true H
theorem pif_nil {X : Cx} : PIf X [] tYes := fun _ _ _ H _ I h => wpAny_tests_nil ⟨H, I, h⟩
theorem pif_one {X : Cx} {c : Expr} {t : TT} (h : PT X c t) : PIf X [c] t := fun pins s σ H Q I q => wpAny_tests_one (h pins s σ H Q I q)

/-- what is wanted of the list that was made -/
def lcEnd (Q : VK) (ys : List V) (H : Hp) : Prop := ∀ p, H p = none → Q (.ref p) (upd H p (.lst ys))
/-- the reading of [elt for tg in iter if ..]: W by the turn, a measure, the list so far, the block's values, the heap -/
def tLc (ix : List (Option Nat)) (wi : TI) (g : TG) (ti : TT) (te : TE) : TE := fun σ H Q => wi σ H fun J H1 => ∃ W : Nat → Nat → List V → St → Hp → Prop, (∃ m, W 0 m [] (blkSt ix σ) H1) ∧ ∀ i m ys σ H, W i m ys σ H →
  ys.length ≤ sizeLine ∧ ((J.stop i H ∧ lcEnd Q ys H) ∨
    (J.go i H ∧ ∃ N : List V → St → Hp → Prop, (∀ ys' σ' H', N ys' σ' H' → ∃ m', m' < m ∧ W (i + 1) m' ys' σ' H') ∧
      ∀ x H', J.yld i H x H' → g x σ H' fun σ2 H2 => ti σ2 H2 fun b H3 => if b = true then te σ2 H3 fun y H4 => N (ys ++ [y]) σ2 H4 else N ys σ2 H3))

/-- the block's own frame: it may go -/
structure Gone (X : Cx) (pins : List (Addr × Obj)) (H : Hp) (s : Shared) (C : Addr) : Prop where
  ns : ∃ m, s.heap.Ns C m
  fr : H C = none
  nl : C ≠ X.env.locals
  ab : X.s₀.heap.objs.size ≤ C
  nc : ∀ x c, X.env.cells.lookup x = some c → c ≠ C
  np : ∀ p ∈ X.pn ++ pins, p.1 ≠ C
section
variable {X : Cx}
theorem blk_run {scope : Scope} {N' : List Str} {ix : List (Option Nat)} {pins : List (Addr × Obj)} {σ : St} {tg iter elt : Expr} {ifs : List Expr} {pos : Pos} {g : TG} {ti : TT} {te : TE} {E : Value → Shared → Prop}
    (co : CompOk X.N X.env.scope scope N' ix) (hc : X.calm = true)
    (hg : ∀ C fp s₂ H₂, PG (blk X scope N' C fp s₂ H₂) tg g) (hi : ∀ C fp s₂ H₂, PIf (blk X scope N' C fp s₂ H₂) ifs ti) (he : ∀ C fp s₂ H₂, PE (blk X scope N' C fp s₂ H₂) elt te)
    {H₂ : Hp} {s₂ : Shared} {J : It} {fp : List Addr} {it : Addr} {tn : Nat → Heap → Prop} {QF : List V → Hp → Prop}
    (I : Inv X pins σ H₂ s₂) (T : Turn X.prog X.w X.K tg J fp it tn) (st : tn 0 s₂.heap) (hf : ∀ b ∈ fp, FpOk X pins H₂ b)
    {W : Nat → Nat → List V → St → Hp → Prop} (w0 : ∃ m, W 0 m [] (blkSt ix σ) H₂)
    (hW : ∀ i m ys σ H, W i m ys σ H → ys.length ≤ sizeLine ∧ ((J.stop i H ∧ QF ys H) ∨
      (J.go i H ∧ ∃ N : List V → St → Hp → Prop, (∀ ys' σ' H', N ys' σ' H' → ∃ m', m' < m ∧ W (i + 1) m' ys' σ' H') ∧
        ∀ x H', J.yld i H x H' → g x σ H' fun σ2 H2 => ti σ2 H2 fun b H3 => if b = true then te σ2 H3 fun y H4 => N (ys ++ [y]) σ2 H4 else N ys σ2 H3)))
    {RR : Value → Addr → Result → Shared → Prop}
    (hRR : ∀ D C ys H' s', Inv X pins σ (upd H' D (.lst ys)) s' → H' D = none → QF ys H' → Gone X pins (upd H' D (.lst ys)) s' C → RR (.ref D) C (.ok .next) s') :
    wpAny (model X.prog X.w) X.A (newList []) (fun acc s₃ => wpAny (model X.prog X.w) X.A (newFunctionEnv scope X.env.globals (clOf scope X.env) [] X.env.qual none .none (some X.env)) (fun cenv s₄ =>
      codeAny (model X.prog X.w) X.A (.compStart (.ListComp elt [⟨tg, iter, ifs, 0⟩] scope pos) 0 (.ref it) acc { cenv with scope := relabel scope X.env }) (RR acc cenv.locals) s₄) E s₃) E s₂ := by
  have hlt : ∀ b ∈ fp, @LT.lt Nat _ b s₂.heap.objs.size := fun b hb => by
    obtain ⟨o, e, _⟩ := T.obj _ _ st b hb
    exact Heap.lt_size e
  refine wpAny_newObj_type (wpAny_newFunctionEnv co.nocell (by intro y hy; simp at hy) (fun h₁ hns₁ hsb₁ => ?_) co.kind)
  dsimp only at hns₁ hsb₁ ⊢
  generalize hH2 : s₂.heap.push { cls := .type "list", dict := none, data := .seq ([] : List Value).toArray } = H2 at hns₁ hsb₁ ⊢
  have hC : @Eq Nat H2.objs.size (s₂.heap.objs.size + 1) := by rw [← hH2, Heap.size_push]
  have below : ∀ b : Nat, b < s₂.heap.objs.size → ¬ @Eq Nat b H2.objs.size := fun b hb => by omega
  have hDC : ¬ @Eq Nat s₂.heap.objs.size H2.objs.size := by omega
  have old : ∀ b o, s₂.heap.get? b = some o → h₁.get? b = some o := fun b o e => hsb₁.extBut b o (below b (Heap.lt_size e)) (Heap.get?_push_of_some _ (hH2 ▸ Heap.get?_push_of_some _ e))
  have hacc : h₁.get? s₂.heap.objs.size = some (lstO [] 0) := hsb₁.extBut _ _ hDC (Heap.get?_push_of_some _ (hH2 ▸ Heap.get?_push_size _ rfl))
  have st₁ : tn 0 h₁ := T.keep _ _ _ st fun b _ o e => old b o e
  generalize hCe : H2.objs.size = C at hns₁ hsb₁ hC below hDC ⊢
  generalize hDe : s₂.heap.objs.size = D at hacc hDC ⊢
  have loop : ∀ s₃ : Shared, s₃ = { s₂ with heap := h₁, toks := s₂.toks + ([] : List (Str × Value)).length } →
      codeAny (model X.prog X.w) X.A (.compLoop (.ListComp elt [⟨tg, iter, ifs, 0⟩] scope pos) 0 (.ref it) (.ref D) (compEnvC scope (clOf scope X.env) C X.env)) (RR (.ref D) C) s₃ := by
    rintro s₃ rfl
    obtain ⟨m0, w0⟩ := w0
    have I3 : Inv (blk X scope N' C fp s₂ H₂) [(D, lstO [] 0)] (blkSt ix σ) H₂ { s₂ with heap := h₁, toks := s₂.toks + ([] : List (Str × Value)).length } := blk_start I co hDe.symm hC hf hlt old hacc hns₁
    refine compLoop_own (fun k s' => ∃ i ys its n σ' H', Inv (blk X scope N' C fp s₂ H₂) [(D, lstO its n)] σ' H' s' ∧ Vals ys its ∧ tn i s'.heap ∧ (∀ b ∈ fp, H' b = none) ∧ W i k ys σ' H') ?_ m0
      ⟨0, [], [], 0, _, _, I3, .nil, st₁, fun b hb => (hf b hb).1, w0⟩
    rintro k s' ⟨i, ys, its, n, σ', H', I', hv, st', fr', w'⟩
    have fpok : ∀ {H' : Hp} {o : Obj}, (∀ b ∈ fp, H' b = none) → ∀ b ∈ fp, FpOk (blk X scope N' C fp s₂ H₂) [(D, o)] H' b := fun {H' o} hn b hb => by
      refine ⟨hn b hb, below b (hlt b hb), fun z => ?_, .inl hb, fun x c e => (hf b hb).2.2.2.2.1 x c (clOf_env e), fun p hp z => ?_⟩
      · rcases List.mem_cons.mp (I.stkSub b z) with e | e
        · exact (hf b hb).2.1 e
        · exact (hf b hb).2.2.1 e
      · have e : p = (D, o) := by simpa [blk] using hp
        subst e
        have z' : @Eq Nat D b := z
        have z2 := hlt b hb
        omega
    obtain ⟨hz, hW'⟩ := hW i k ys σ' H' w'
    rcases hW' with ⟨stop, q⟩ | ⟨go, N, hN, step⟩
    · refine thn (T.done (blk X scope N' C fp s₂ H₂) rfl rfl rfl hc i _ s' σ' H' NoE I' (fpok fr') st' stop) fun r s4 ⟨hr, I4⟩ => ?_
      subst hr
      obtain ⟨_, dn, _⟩ := I4.pin (D, lstO its n) (by simp)
      have cf : H' C = none := I4.free
      refine hRR D C ys H' s4 (blk_leave I hDe.symm hf I4 hv hz) dn q ⟨?_, by rw [upd_ne (Ne.symm hDC)]; exact cf, ?_, ?_, fun x c e => ?_, fun p hp => ?_⟩
      · obtain ⟨m, hn, _⟩ := I4.loc
        exact ⟨m, hn⟩
      · have z : @LT.lt Nat _ X.env.locals s₂.heap.objs.size := I.lt
        show ¬ @Eq Nat C X.env.locals
        omega
      · have z : @LE.le Nat _ X.s₀.heap.objs.size s₂.heap.objs.size := I.sz
        show @LE.le Nat _ X.s₀.heap.objs.size C
        omega
      · obtain ⟨v, z⟩ := I.cell x c e
        have z2 : @LT.lt Nat _ c s₂.heap.objs.size := z.lt
        show ¬ @Eq Nat c C
        omega
      · have z2 : @LT.lt Nat _ p.1 s₂.heap.objs.size := Heap.lt_size (I.pin p hp).1
        show ¬ @Eq Nat p.1 C
        omega
    · refine thn (T.item (blk X scope N' C fp s₂ H₂) rfl rfl rfl hc i _ s' σ' H' NoE I' (fpok fr') st' go) fun r s4 ⟨u, hr, h4⟩ => ?_
      subst hr
      refine thn h4 fun _ s5 ⟨x, H5, I5, r5, y5, st5, fr5⟩ => ?_
      have I5' := I5.pinned (fpok fr5) (T.obj _ _ st5)
      refine thn (hg C fp s₂ H₂ _ s5 σ' H5 x u _ I5' r5 (step x H5 y5)) fun _ s6 ⟨σ6, H6, I6, q6⟩ => ?_
      refine thn (hi C fp s₂ H₂ _ s6 σ6 H6 _ I6 q6) fun ok s7 ⟨H7, I7, q7⟩ => ?_
      have fpin : ∀ {σ8 : St} {H8 : Hp} {s8 : Shared}, Inv (blk X scope N' C fp s₂ H₂) ([(D, lstO its n)] ++ pinsAt fp s5.heap) σ8 H8 s8 → ∀ b ∈ fp, ∀ o, s5.heap.get? b = some o → s8.heap.get? b = some o ∧ H8 b = none := fun {σ8 H8 s8} I8 b hb o e => by
        have z := I8.pin (b, o) (List.mem_append_right _ (List.mem_append_right _ (mem_pinsAt hb e)))
        exact ⟨z.1, z.2.1⟩
      cases ok with
      | false =>
        have q7' : N ys σ6 H7 := by
          have q7' := q7
          rw [if_neg Bool.false_ne_true] at q7'
          exact q7'
        obtain ⟨m', hm, w7⟩ := hN _ _ _ q7'
        refine ⟨m', hm, i + 1, ys, its, n, σ6, H7, I7.unpinned, hv, T.keep _ _ _ st5 fun b hb o e => (fpin I7 b hb o e).1, fun b hb => ?_, w7⟩
        obtain ⟨o, e, _⟩ := T.obj _ _ st5 b hb
        exact (fpin I7 b hb o e).2
      | true =>
        have q7' : te σ6 H7 fun y H4 => N (ys ++ [y]) σ6 H4 := by
          have q7' := q7
          rw [if_pos rfl] at q7'
          exact q7'
        show wpAny _ _ _ _ _ _
        refine thn (he C fp s₂ H₂ _ s7 σ6 H7 _ I7 q7') fun yv s8 ⟨y, H8, I8, r8, q8⟩ => ?_
        obtain ⟨m', hm, w8⟩ := hN _ _ _ q8
        obtain ⟨z1, z2, z3, z4, z5⟩ := I8.pin (D, lstO its n) (by simp)
        have zD : s8.heap.get? D = some (lstO its n) := z1
        have lenv := hv.length
        refine append_at (hsz := by rw [List.size_toArray]; omega) zD fun h9 hs9 hD9 => ?_
        have I8' : Inv (blk X scope N' C fp s₂ H₂) (pinsAt fp s5.heap) σ6 H8 s8 := I8.pins_of fun p hp => I8.pin p (List.mem_append_right _ (List.mem_append_right _ hp))
        have I9 : Inv (blk X scope N' C fp s₂ H₂) (pinsAt fp s5.heap) σ6 H8 { s8 with heap := h9 } := I8'.turned (it := D) (t' := s8.toks) (fun b o hb e => (hs9.2 b hb).trans e) z2 z3
          (.inr (by show s₂.heap.objs.size ≤ D; omega)) (fun x c e => by have z : @LT.lt Nat _ c s₂.heap.objs.size := blk_cells (scope := scope) I e; show ¬ @Eq Nat c D; omega) (fun p hp => by
            have hp' : p ∈ pinsAt fp s5.heap := by simpa [blk] using hp
            have z := hlt _ (of_pinsAt hp').1
            show ¬ @Eq Nat p.1 D
            omega)
        have hD9' : h9.get? D = some (lstO (its ++ [yv]) (n + 1)) := by
          rw [hD9]
          simp [lstO]
        have I10 : Inv (blk X scope N' C fp s₂ H₂) [(D, lstO (its ++ [yv]) (n + 1))] σ6 H8 { s8 with heap := h9 } := I9.pins_of fun p hp => by
          have e : p = (D, lstO (its ++ [yv]) (n + 1)) := by simpa using hp
          subst e
          refine ⟨hD9', z2, z3, z4, fun v z => ?_⟩
          have z' : Data.seq _ _ = Data.cell v := z
          cases z'
        refine ⟨m', hm, i + 1, ys ++ [y], its ++ [yv], n + 1, σ6, H8, I10, hv.append (.cons r8 .nil), T.keep _ _ _ st5 fun b hb o e => ?_, fun b hb => ?_, w8⟩
        · have hbD : b ≠ D := by
            have z := hlt b hb
            show ¬ @Eq Nat b D
            omega
          exact (hs9.2 b hbD).trans (fpin I8 b hb o e).1
        · obtain ⟨o, e, _⟩ := T.obj _ _ st5 b hb
          exact (fpin I8 b hb o e).2
  exact codeAny_compStart_list (loop _ rfl) (T.self _ 0 _ _ _ st₁ (loop _ rfl))

theorem Gone.go {pins : List (Addr × Obj)} {σ : St} {H : Hp} {s : Shared} {C : Addr} {h' : Heap} (G : Gone X pins H s C) (I : Inv X pins σ H s) (hs : Heap.SameBut C s.heap h') : Inv X pins σ H { s with heap := h' } :=
  I.turned (it := C) (t' := s.toks) (fun b o hb e => (hs.2 b hb).trans e) G.fr G.nl (.inr G.ab) G.nc G.np

variable {scope : Scope} {N' : List Str} {ix : List (Option Nat)} {tg iter elt : Expr} {ifs : List Expr} {pos : Pos} {wi : TI} {g : TG} {ti : TT} {te : TE}
theorem comp_clos (co : CompOk X.N X.env.scope scope N' ix) {pins : List (Addr × Obj)} {σ : St} {H : Hp} {s : Shared} (I : Inv X pins σ H s) : closureFor scope X.env = pure (clOf scope X.env) :=
  closure_is fun p hp e => I.ok.has p.1 (co.frees p hp e)
/-- [elt for tg in iter if ..] as a value -/
theorem pe_lcomp (co : CompOk X.N X.env.scope scope N' ix) (hc : X.calm = true) (hit : PI X tg iter wi) (hg : ∀ C fp s₂ H₂, PG (blk X scope N' C fp s₂ H₂) tg g) (hi : ∀ C fp s₂ H₂, PIf (blk X scope N' C fp s₂ H₂) ifs ti)
    (he : ∀ C fp s₂ H₂, PE (blk X scope N' C fp s₂ H₂) elt te) (hs : ∀ x, foldedSetIterable iter X.env x = pure x := by intro _; rfl) :
    PE X (.ListComp elt [⟨tg, iter, ifs, 0⟩] scope pos) (tLc ix wi g ti te) := by
  intro pins s σ H Q I h
  rw [eval_ListComp]
  refine wpAny_comprehension_free (use := none) rfl hs (comp_clos co I) co.kind co.names (thn (hit pins s σ H _ I h) fun xv s₁ h₁ => thn h₁ fun itv s₂ h₂ => ?_)
  obtain ⟨it, fp, tn, J, H₂, e, I₂, T, st, hf, W, w0, hW⟩ := h₂
  subst e
  refine blk_run co hc hg hi he I₂ T st hf w0 hW (RR := fun acc C => compPost (model X.prog X.w) X.A X.xe none (EP X pins σ Q) acc C) fun D C ys H' s' I' dn q G => ?_
  obtain ⟨m, hn⟩ := G.ns
  exact ⟨m, hn, fun h' hs' => ⟨.ref D, _, G.go I' hs', rfl, q D dn⟩⟩
/-- y = [..], y a plain local -/
theorem ps_lcomp {i : Nat} {y : Str} {py spos : Pos} (hN : X.N.Nodup) (hiy : X.N[i]? = some y) (hy : X.env.scope.names.lookup y = some .local) (co : CompOk X.N X.env.scope scope N' ix) (hc : X.calm = true) (hit : PI X tg iter wi)
    (hg : ∀ C fp s₂ H₂, PG (blk X scope N' C fp s₂ H₂) tg g) (hi : ∀ C fp s₂ H₂, PIf (blk X scope N' C fp s₂ H₂) ifs ti)
    (he : ∀ C fp s₂ H₂, PE (blk X scope N' C fp s₂ H₂) elt te) (hs : ∀ x, foldedSetIterable iter X.env x = pure x := by intro _; rfl)
    (hsw : swapsWith (.ListComp elt [⟨tg, iter, ifs, 0⟩] scope pos) (some (.Name y py)) spos.line X.env = pure true := by rfl) :
    PS X (.Assign [.Name y py] (.ListComp elt [⟨tg, iter, ifs, 0⟩] scope pos) spos) (tAsg (tLc ix wi g ti te) (gName i)) := by
  intro pins s σ H D I h
  rw [exec_Assign_Name_used _ _ _ _ hsw]
  refine wpAny_bind (wpAny_standAt (wpAny_bind ?_))
  show wpAny _ X.A (do let _ ← comprehension (.ListComp elt [⟨tg, iter, ifs, 0⟩] scope pos) scope X.env _ (newList []) false (eval iter X.env) (some (assign (.Name y py) X.env))) _ _ s
  refine wpAny_bind (wpAny_mono (wpAny_comprehension_free (use := some (assign (.Name y py) X.env)) (Q := fun _ s' => SP X pins D .next s') rfl hs (comp_clos co I) co.kind co.names
    (thn (hit pins s σ H _ I h) fun xv s₁ h₁ => thn h₁ fun itv s₂ h₂ => ?_)) (fun _ s' hq => wpAny_pure (wpAny_pure hq)) fun _ _ e => e)
  obtain ⟨it, fp, tn, J, H₂, e, I₂, T, st, hf, W, w0, hW⟩ := h₂
  subst e
  refine blk_run co hc hg hi he I₂ T st hf w0 hW (RR := fun acc C => compPost (model X.prog X.w) X.A X.xe (some (assign (.Name y py) X.env)) (fun _ s' => SP X pins D .next s') acc C) fun Da C ys H' s' I' dn q G => ?_
  show wpAny _ _ (assign (.Name y py) X.env (.ref Da)) _ _ s'
  refine wpAny_assign_Name (store_ok2 (v := .ref Da) I' hN hiy (.inl hy) rfl (fun s'' I'' ⟨a, sb, ha⟩ => ?_) (.inr hy))
  have hCa : C ≠ a := by
    rcases ha with z | z
    · rw [z]; exact G.nl
    · exact Ne.symm (G.nc _ _ z)
  obtain ⟨m, hn⟩ := G.ns
  have hn2 := hn.sameBut sb hCa
  have G2 : Gone X pins (upd H' Da (.lst ys)) s'' C := ⟨⟨m, hn2⟩, G.fr, G.nl, G.ab, G.nc, G.np⟩
  exact ⟨m, hn2, fun h' hs' => ⟨_, _, G2.go I'' hs', q Da dn⟩⟩
end

/-! ### the forms one uses -/
theorem lc_list {K : PySem.W.Frag} {a : Addr} {xs : List V} {g : TG} {ti : TT} {te : TE} {σ0 : St} {H0 : Hp} {Q : VK} (Pv : Nat → List V → St → Hp → Prop) (h0 : Pv 0 [] σ0 H0)
    (hl : ∀ i ys σ H, i ≤ xs.length → Pv i ys σ H → SqL K H a xs ∧ ys.length ≤ sizeLine)
    (hs : ∀ i x ys σ H, xs[i]? = some x → Pv i ys σ H → g x σ H fun σ2 H2 => ti σ2 H2 fun b H3 => if b = true then te σ2 H3 fun y H4 => Pv (i + 1) (ys ++ [y]) σ2 H4 else Pv (i + 1) ys σ2 H3)
    (hd : ∀ ys σ H, Pv xs.length ys σ H → ∀ p, H p = none → Q (.ref p) (upd H p (.lst ys))) :
    ∃ W : Nat → Nat → List V → St → Hp → Prop, (∃ m, W 0 m [] σ0 H0) ∧ ∀ i m ys σ H, W i m ys σ H →
      ys.length ≤ sizeLine ∧ (((Itl K a).stop i H ∧ lcEnd Q ys H) ∨
        ((Itl K a).go i H ∧ ∃ N : List V → St → Hp → Prop, (∀ ys' σ' H', N ys' σ' H' → ∃ m', m' < m ∧ W (i + 1) m' ys' σ' H') ∧
          ∀ x H', (Itl K a).yld i H x H' → g x σ H' fun σ2 H2 => ti σ2 H2 fun b H3 => if b = true then te σ2 H3 fun y H4 => N (ys ++ [y]) σ2 H4 else N ys σ2 H3)) := by
  refine ⟨fun i m ys σ H => m = xs.length - i ∧ i ≤ xs.length ∧ Pv i ys σ H, ⟨xs.length, by simp, Nat.zero_le _, h0⟩, ?_⟩
  rintro i m ys σ H ⟨rfl, hi, p⟩
  obtain ⟨q, hz⟩ := hl i ys σ H hi p
  refine ⟨hz, ?_⟩
  by_cases hlt : i < xs.length
  · refine .inr ⟨⟨xs, xs[i], q, by simp [hlt]⟩, Pv (i + 1), fun ys' σ' H' p' => ⟨xs.length - (i + 1), by omega, rfl, hlt, p'⟩, fun x H' y => ?_⟩
    obtain ⟨e, y⟩ := y
    subst e
    exact hs i x ys σ _ (y xs q) p
  · have e : i = xs.length := by omega
    subst e
    exact .inl ⟨⟨xs, q, Nat.le_refl _⟩, hd ys σ H p⟩
theorem lc_range {lo : Int} {n : Nat} {g : TG} {ti : TT} {te : TE} {σ0 : St} {H0 : Hp} {Q : VK} (Pv : Nat → List V → St → Hp → Prop) (h0 : Pv 0 [] σ0 H0)
    (hl : ∀ i ys σ H, i ≤ n → Pv i ys σ H → ys.length ≤ sizeLine)
    (hs : ∀ i ys σ H, i < n → Pv i ys σ H → g (.int (lo + i)) σ H fun σ2 H2 => ti σ2 H2 fun b H3 => if b = true then te σ2 H3 fun y H4 => Pv (i + 1) (ys ++ [y]) σ2 H4 else Pv (i + 1) ys σ2 H3)
    (hd : ∀ ys σ H, Pv n ys σ H → ∀ p, H p = none → Q (.ref p) (upd H p (.lst ys))) :
    ∃ W : Nat → Nat → List V → St → Hp → Prop, (∃ m, W 0 m [] σ0 H0) ∧ ∀ i m ys σ H, W i m ys σ H →
      ys.length ≤ sizeLine ∧ (((Itr lo n).stop i H ∧ lcEnd Q ys H) ∨
        ((Itr lo n).go i H ∧ ∃ N : List V → St → Hp → Prop, (∀ ys' σ' H', N ys' σ' H' → ∃ m', m' < m ∧ W (i + 1) m' ys' σ' H') ∧
          ∀ x H', (Itr lo n).yld i H x H' → g x σ H' fun σ2 H2 => ti σ2 H2 fun b H3 => if b = true then te σ2 H3 fun y H4 => N (ys ++ [y]) σ2 H4 else N ys σ2 H3)) := by
  refine ⟨fun i m ys σ H => m = n - i ∧ i ≤ n ∧ Pv i ys σ H, ⟨n, by simp, Nat.zero_le _, h0⟩, ?_⟩
  rintro i m ys σ H ⟨rfl, hi, p⟩
  refine ⟨hl i ys σ H hi p, ?_⟩
  by_cases hlt : i < n
  · refine .inr ⟨hlt, Pv (i + 1), fun ys' σ' H' p' => ⟨n - (i + 1), by omega, rfl, hlt, p'⟩, fun x H' y => ?_⟩
    obtain ⟨e, y⟩ := y
    subst e y
    exact hs i ys σ _ hlt p
  · have e : i = n := by omega
    subst e
    exact .inl ⟨Nat.le_refl _, hd ys σ H p⟩
end L2
/-! OWN RULES: isinstance, all, any, sum, [::-1], is with a bool, deep equality -/
namespace L2
open PySem PySem.Spec PyProof.Rows
section
variable {X : Cx}
/-- isinstance(x, T), T a built-in type -/
theorem call_isinst : CallR X (.builtin "isinstance") (fun xs H Q => ∃ x t T b, xs = [x, .ty T] ∧ TyOf X.K H x t ∧ PySem.W.kitOne X.K t (.type T) = some b ∧ Q (.bl b) H) := by
  intro pins s σ H xs us Q I r h
  obtain ⟨x, t, T, b, rfl, ty, e, q⟩ := h
  obtain ⟨u, w, rfl, r1, r2⟩ := vals2 r
  obtain rfl : w = Value.type T := r2
  exact isinst_ok I r1 ty e fun tk => ⟨.bl b, H, I.tok tk, rfl, q⟩

theorem walks_list {A : Around} {s : Shared} {p : Addr} {its : List Value} (hh : A.handled = none) (hl : s.heap.IsList p its.toArray) :
    ∃ (fp : List Addr), (∀ b ∈ fp, b < s.heap.objs.size + 1) ∧ Walks X.prog X.w A s.heap.objs.size fp [s.heap.objs.size] its.toArray.size (fun i v => its.toArray[i]? = some v) (fun i h => h.IsListIter s.heap.objs.size p i ∧ h.IsList p its.toArray) ∧
      ((s.heap.push { cls := .type "list_iterator", data := .fields #[.ref p, .int 0 0] }).IsListIter s.heap.objs.size p 0 ∧ (s.heap.push { cls := .type "list_iterator", data := .fields #[.ref p, .int 0 0] }).IsList p its.toArray) := by
  have hlt : p < s.heap.objs.size := by obtain ⟨_, e, _⟩ := hl; exact Heap.lt_size e
  refine ⟨[s.heap.objs.size, p], fun b hb => ?_, Walks.list (A := A) hh _ p (Nat.ne_of_lt hlt) its.toArray, ⟨_, Heap.get?_push_size _ rfl, rfl, rfl⟩, hl.push _⟩
  rcases List.mem_cons.mp hb with e | e
  · rw [e]; exact Nat.lt_succ_self _
  · rw [List.mem_singleton.mp e]; exact Nat.lt_succ_of_lt hlt
theorem kept_iter' {s : Shared} {h' : Heap} {o : Obj} (hk : ∀ b x, b ∉ [s.heap.objs.size] → (s.heap.push o).get? b = some x → h'.get? b = some x) : ∀ b x, s.heap.get? b = some x → h'.get? b = some x :=
  fun b x e => hk b x (fun hm => by rw [List.mem_singleton.mp hm] at e; exact Nat.lt_irrefl _ (Heap.lt_size e)) (Heap.get?_push_of_some _ e)
theorem vals_bl : ∀ {bs : List Bool} {us : List Value}, Vals (bs.map V.bl) us → us = bs.map Value.bool
  | [], us, h => by
    rw [List.map_nil] at h
    cases h
    rfl
  | b :: bs, us, h => by
    rw [List.map_cons] at h
    cases h with
    | cons r1 r2 =>
      cases r1
      rw [vals_bl r2, List.map_cons]
theorem truth_bl {A : Around} (bs : List Bool) (d : Bool) : ∀ (i : Nat) (v : Value) (s' : Shared) (Q' : Bool → Shared → Prop) (E' : Value → Shared → Prop), (bs.map Value.bool).toArray[i]? = some v → Q' ((bs[i]?).getD d) s' → wpAny (model X.prog X.w) A (truthy v) Q' E' s' :=
  fun i v s' Q' E' hP hQ => by
    have e : (bs.map Value.bool)[i]? = some v := by simpa using hP
    rw [List.getElem?_map] at e
    cases q : bs[i]? with
    | none => rw [q] at e; cases e
    | some b =>
      rw [q] at e hQ
      have e' : Value.bool b = v := Option.some.inj e
      subst e'
      exact wpAny_truthy_bool hQ
theorem call_any (hc : X.calm = true) : CallR X (.builtin "any") (fun xs H Q => ∃ (p : Addr) (bs : List Bool), xs = [.ref p] ∧ SqL X.K H p (bs.map V.bl) ∧ Q (.bl (bs.any id)) H) := by
  intro pins s σ H xs us Q I r h
  obtain ⟨p, bs, rfl, hq, q⟩ := h
  obtain ⟨u, rfl, rx⟩ := vals1 r
  cases rx
  obtain ⟨its, r', pl, hz⟩ := I.list hq
  have ei := vals_bl r'
  subst ei
  obtain ⟨fp, hfp, W, st⟩ := walks_list (X := X) (A := X.A.in1) (s := s) (I.ok.hd hc) pl.isList
  refine call_any_walk (wpAny_pyIter_list pl.isList ⟨_, fp, _, _, _, _, fun i => (bs[i]?).getD false, rfl, W, st, truth_bl bs false, fun h' tk hk => ?_⟩)
  have e : ((List.range (bs.map Value.bool).toArray.size).any fun i => (bs[i]?).getD false) = bs.any id := by
    rw [List.size_toArray, List.length_map]; exact LSm.range_any bs
  rw [e]
  exact ⟨.bl (bs.any id), H, I.kept (t' := tk) (kept_iter' hk), rfl, q⟩
end
end L2
/-! OWN RULES: == and != of data of any depth -/
namespace L2
open PySem PySem.Spec PyProof.Rows

inductive Dt where
  | non | bl (b : Bool) | int (i : Int) | str (x : Str) | tup (ds : List Dt) | lst (ds : List Dt)

mutual
def HasD (K : PySem.W.Frag) (H : Hp) : Dt → V → Prop
  | .non, v => v = .non
  | .bl b, v => v = .bl b
  | .int i, v => v = .int i
  | .str x, v => v = .str x
  | .tup ds, v => ∃ a xs, v = .ref a ∧ SqT K H a xs ∧ HasDs K H ds xs
  | .lst ds, v => ∃ a xs, v = .ref a ∧ SqL K H a xs ∧ HasDs K H ds xs
def HasDs (K : PySem.W.Frag) (H : Hp) : List Dt → List V → Prop
  | [], xs => xs = []
  | d :: ds, xs => ∃ x r, xs = x :: r ∧ HasD K H d x ∧ HasDs K H ds r
end
mutual
def eqD : Dt → Dt → Bool
  | .non, .non => true
  | .bl a, .bl b => a == b
  | .bl a, .int b => (if a then 1 else 0) == b
  | .int a, .bl b => a == (if b then 1 else 0)
  | .int a, .int b => a == b
  | .str a, .str b => a == b
  | .tup as, .tup bs => eqDs as bs
  | .lst as, .lst bs => eqDs as bs
  | _, _ => false
def eqDs : List Dt → List Dt → Bool
  | [], [] => true
  | a :: as, b :: bs => eqD a b && eqDs as bs
  | _, _ => false
end
mutual
def depD : Dt → Nat
  | .tup ds => depDs ds + 1
  | .lst ds => depDs ds + 1
  | _ => 0
def depDs : List Dt → Nat
  | [] => 0
  | d :: ds => max (depD d) (depDs ds)
end

def eqAtI (ds es : List Dt) (j : Nat) : Bool := match ds[j]?, es[j]? with
  | some a, some b => eqD a b
  | _, _ => true
theorem range_eqDs : ∀ (ds es : List Dt), ((List.range (min ds.length es.length)).all (eqAtI ds es) && (ds.length == es.length)) = eqDs ds es
  | [], [] => by simp [eqDs]
  | [], e :: es => by simp [eqDs]
  | d :: ds, [] => by simp [eqDs]
  | d :: ds, e :: es => by
    have ih := range_eqDs ds es
    have e1 : min (d :: ds).length (e :: es).length = min ds.length es.length + 1 := by simp only [List.length_cons]; omega
    have e2 : ((d :: ds).length == (e :: es).length) = (ds.length == es.length) := by simp
    have e3 : (eqAtI (d :: ds) (e :: es) ∘ Nat.succ) = eqAtI ds es := by funext j; simp [eqAtI, Function.comp]
    have e4 : eqAtI (d :: ds) (e :: es) 0 = eqD d e := by simp [eqAtI]
    rw [e1, e2, List.range_succ_eq_map, List.all_cons, List.all_map, e3, e4, Bool.and_assoc, ih, eqDs]
theorem HasDs.length {K : PySem.W.Frag} {H : Hp} : ∀ {ds : List Dt} {xs : List V}, HasDs K H ds xs → ds.length = xs.length
  | [], xs, h => by
    rw [HasDs] at h
    rw [h]
    rfl
  | d :: ds, xs, h => by
    rw [HasDs] at h
    obtain ⟨x, r, rfl, _, h2⟩ := h
    rw [List.length_cons, List.length_cons, HasDs.length h2]
theorem HasDs.get {K : PySem.W.Frag} {H : Hp} : ∀ {ds : List Dt} {xs : List V} {j : Nat} {x : V}, HasDs K H ds xs → xs[j]? = some x → ∃ d, ds[j]? = some d ∧ HasD K H d x
  | [], xs, j, x, h, e => by
    rw [HasDs] at h
    subst h
    simp at e
  | d :: ds, xs, j, x, h, e => by
    rw [HasDs] at h
    obtain ⟨y, r, rfl, h1, h2⟩ := h
    cases j with
    | zero =>
      have e' : y = x := by simpa using e
      subst e'
      exact ⟨d, by simp, h1⟩
    | succ j =>
      obtain ⟨d', q1, q2⟩ := HasDs.get (j := j) h2 (by simpa using e)
      exact ⟨d', by simpa using q1, q2⟩
theorem dep_get : ∀ {ds : List Dt} {j : Nat} {d : Dt}, ds[j]? = some d → depD d ≤ depDs ds
  | [], j, d, e => by simp at e
  | c :: ds, j, d, e => by
    rw [depDs]
    cases j with
    | zero =>
      have e' : c = d := by simpa using e
      subst e'
      exact Nat.le_max_left _ _
    | succ j => exact Nat.le_trans (dep_get (j := j) (by simpa using e)) (Nat.le_max_right _ _)

section
variable {X : Cx} {pins : List (Addr × Obj)} {σ : St} {H : Hp} {s : Shared}
theorem list_not_tuple (I : Inv X pins σ H s) {a : Addr} {xs ys : List V} (h : SqL X.K H a xs) (h' : SqT X.K H a ys) : False := by
  obtain ⟨_, _, p, _⟩ := I.list h
  obtain ⟨_, _, q, _⟩ := I.tuple h'
  obtain ⟨o, e, c, _⟩ := p.isList
  obtain ⟨o', e', c', _⟩ := q
  rw [e] at e'
  cases e'
  rw [c] at c'
  exact absurd c' (by decide)
mutual
theorem hasD_same (I : Inv X pins σ H s) : ∀ (d e : Dt) (x : V), HasD X.K H d x → HasD X.K H e x → eqD d e = true
  | .non, e, x, h, k => by
    rw [HasD] at h
    subst h
    cases e <;> rw [HasD] at k <;> first | (obtain ⟨_, _, z, _⟩ := k; cases z) | rfl | cases k
  | .bl b, e, x, h, k => by
    rw [HasD] at h
    subst h
    cases e <;> rw [HasD] at k <;> first | (obtain ⟨_, _, z, _⟩ := k; cases z) | (cases k; simp [eqD]; done) | cases k
  | .int b, e, x, h, k => by
    rw [HasD] at h
    subst h
    cases e <;> rw [HasD] at k <;> first | (obtain ⟨_, _, z, _⟩ := k; cases z) | (cases k; simp [eqD]; done) | cases k
  | .str b, e, x, h, k => by
    rw [HasD] at h
    subst h
    cases e <;> rw [HasD] at k <;> first | (obtain ⟨_, _, z, _⟩ := k; cases z) | (cases k; simp [eqD]; done) | cases k
  | .tup ds, e, x, h, k => by
    rw [HasD] at h
    obtain ⟨a, xs, rfl, h1, h2⟩ := h
    cases e with
    | tup es =>
      rw [HasD] at k
      obtain ⟨b, ys, z, k1, k2⟩ := k
      cases z
      have e := I.tuple_inj k1 h1
      subst e
      rw [eqD]
      exact hasDs_same I ds es _ h2 k2
    | lst es =>
      rw [HasD] at k
      obtain ⟨b, ys, z, k1, k2⟩ := k
      cases z
      exact (list_not_tuple I k1 h1).elim
    | non => rw [HasD] at k; cases k
    | bl b => rw [HasD] at k; cases k
    | int b => rw [HasD] at k; cases k
    | str b => rw [HasD] at k; cases k
  | .lst ds, e, x, h, k => by
    rw [HasD] at h
    obtain ⟨a, xs, rfl, h1, h2⟩ := h
    cases e with
    | lst es =>
      rw [HasD] at k
      obtain ⟨b, ys, z, k1, k2⟩ := k
      cases z
      have e := I.list_inj k1 h1
      subst e
      rw [eqD]
      exact hasDs_same I ds es _ h2 k2
    | tup es =>
      rw [HasD] at k
      obtain ⟨b, ys, z, k1, k2⟩ := k
      cases z
      exact (list_not_tuple I h1 k1).elim
    | non => rw [HasD] at k; cases k
    | bl b => rw [HasD] at k; cases k
    | int b => rw [HasD] at k; cases k
    | str b => rw [HasD] at k; cases k
theorem hasDs_same (I : Inv X pins σ H s) : ∀ (ds es : List Dt) (xs : List V), HasDs X.K H ds xs → HasDs X.K H es xs → eqDs ds es = true
  | [], es, xs, h, k => by
    rw [HasDs] at h
    subst h
    cases es with
    | nil => rw [eqDs]
    | cons e es =>
      rw [HasDs] at k
      obtain ⟨_, _, z, _⟩ := k
      cases z
  | d :: ds, es, xs, h, k => by
    rw [HasDs] at h
    obtain ⟨x, r, rfl, h1, h2⟩ := h
    cases es with
    | nil => rw [HasDs] at k; cases k
    | cons e es =>
      rw [HasDs] at k
      obtain ⟨y, r', z, k1, k2⟩ := k
      cases z
      rw [eqDs, hasD_same I d e _ h1 k1, hasDs_same I ds es _ h2 k2]
      rfl
end

/-- the items of two sequences, one by one -/
theorem items_eqAt {A : Around} {ds es : List Dt} {xs ys : List V} {is js : List Value} (hd : HasDs X.K H ds xs) (he : HasDs X.K H es ys) (vi : Vals xs is) (vj : Vals ys js)
    (rec : ∀ d e x y u v, d ∈ ds → depD d ≤ depDs ds → HasD X.K H d x → HasD X.K H e y → RelV x u → RelV y v → SeqAt.EqAt A s u v (eqD d e)) :
    ∀ j (h1 : j < is.toArray.size) (h2 : j < js.toArray.size), SeqAt.EqAt A s is.toArray[j] js.toArray[j] (eqAtI ds es j) := fun j h1 h2 => by
  have h1' : j < is.length := by simpa using h1
  have h2' : j < js.length := by simpa using h2
  have lx : j < xs.length := by rw [vi.length]; exact h1'
  have ly : j < ys.length := by rw [vj.length]; exact h2'
  obtain ⟨u, eu, ru⟩ := vi.get (i := j) (x := xs[j]) (by simp [lx])
  obtain ⟨v, ev, rv⟩ := vj.get (i := j) (x := ys[j]) (by simp [ly])
  obtain ⟨d, ed, kd⟩ := hd.get (j := j) (x := xs[j]) (by simp [lx])
  obtain ⟨e, ee, ke⟩ := he.get (j := j) (x := ys[j]) (by simp [ly])
  have e1 : is.toArray[j] = u := by
    rw [List.getElem?_eq_getElem h1'] at eu
    simpa using eu
  have e2 : js.toArray[j] = v := by
    rw [List.getElem?_eq_getElem h2'] at ev
    simpa using ev
  have e3 : eqAtI ds es j = eqD d e := by simp [eqAtI, ed, ee]
  rw [e1, e2, e3]
  exact rec d e _ _ u v (List.mem_of_getElem? ed) (dep_get ed) kd ke ru rv
theorem same_len {ds es : List Dt} {xs ys : List V} {is js : List Value} (hd : HasDs X.K H ds xs) (he : HasDs X.K H es ys) (vi : Vals xs is) (vj : Vals ys js) : ds.length = is.toArray.size ∧ es.length = js.toArray.size := by
  rw [hd.length, he.length, vi.length, vj.length]
  simp
theorem lists_all {ds es : List Dt} (h : ds.length = es.length) : (List.range ds.length).all (eqAtI ds es) = eqDs ds es := by
  have q := range_eqDs ds es
  rw [← h, Nat.min_self, beq_self_eq_true, Bool.and_true] at q
  exact q
theorem lists_no {ds es : List Dt} (h : ds.length ≠ es.length) : eqDs ds es = false := by
  have q := range_eqDs ds es
  rw [show (ds.length == es.length) = false from by simpa using h, Bool.and_false] at q
  exact q.symm

theorem eqAt_D (I : Inv X pins σ H s) : ∀ (n : Nat) (d e : Dt) (x y : V) (u v : Value) (A : Around), depD d ≤ n → A.units + n < cLine → HasD X.K H d x → HasD X.K H e y → RelV x u → RelV y v → SeqAt.EqAt A s u v (eqD d e) := by
  intro n
  induction n with
  | zero =>
    intro d e x y u v A hn hu hd he ru rv
    have hu' : A.units < cLine := by omega
    cases d with
    | tup ds => rw [depD] at hn; omega
    | lst ds => rw [depD] at hn; omega
    | non =>
      rw [HasD] at hd; subst hd; cases ru
      cases e <;> rw [HasD] at he
      case non => subst he; cases rv; exact SeqAt.EqAt.same _
      case bl b => subst he; cases rv; exact SeqAt.EqAt.none_bool b
      case int b => subst he; obtain ⟨t, rfl⟩ := rv; exact SeqAt.EqAt.none_int b t
      case str b => subst he; obtain ⟨t, rfl⟩ := rv; exact SeqAt.EqAt.none_str b t
      case tup es => obtain ⟨b, ys, rfl, k1, k2⟩ := he; cases rv; obtain ⟨js, vj, pj, _⟩ := I.tuple k1; exact SeqAt.EqAt.none_tuple pj hu'
      case lst es => obtain ⟨b, ys, rfl, k1, k2⟩ := he; cases rv; obtain ⟨js, vj, pj, _⟩ := I.list k1; exact SeqAt.EqAt.none_list pj.isList hu'
    | bl a =>
      rw [HasD] at hd; subst hd; cases ru
      cases e <;> rw [HasD] at he
      case non => subst he; cases rv; exact SeqAt.EqAt.bool_none a
      case bl b => subst he; cases rv; exact SeqAt.EqAt.bool_bool a b
      case int b => subst he; obtain ⟨t, rfl⟩ := rv; exact SeqAt.EqAt.bool_int a b t
      case str b => subst he; obtain ⟨t, rfl⟩ := rv; exact SeqAt.EqAt.bool_str a b t
      case tup es => obtain ⟨b, ys, rfl, k1, k2⟩ := he; cases rv; obtain ⟨js, vj, pj, _⟩ := I.tuple k1; exact SeqAt.EqAt.bool_tuple a pj hu'
      case lst es => obtain ⟨b, ys, rfl, k1, k2⟩ := he; cases rv; obtain ⟨js, vj, pj, _⟩ := I.list k1; exact SeqAt.EqAt.bool_list a pj.isList hu'
    | int a =>
      rw [HasD] at hd; subst hd; obtain ⟨t0, rfl⟩ := ru
      cases e <;> rw [HasD] at he
      case non => subst he; cases rv; exact SeqAt.EqAt.int_none a t0
      case bl b => subst he; cases rv; exact SeqAt.EqAt.int_bool a t0 b
      case int b => subst he; obtain ⟨t, rfl⟩ := rv; exact SeqAt.EqAt.int_int a t0 b t
      case str b => subst he; obtain ⟨t, rfl⟩ := rv; exact SeqAt.EqAt.int_str a t0 b t
      case tup es => obtain ⟨b, ys, rfl, k1, k2⟩ := he; cases rv; obtain ⟨js, vj, pj, _⟩ := I.tuple k1; exact SeqAt.EqAt.int_tuple a t0 pj hu'
      case lst es => obtain ⟨b, ys, rfl, k1, k2⟩ := he; cases rv; obtain ⟨js, vj, pj, _⟩ := I.list k1; exact SeqAt.EqAt.int_list a t0 pj.isList hu'
    | str a =>
      rw [HasD] at hd; subst hd; obtain ⟨t0, rfl⟩ := ru
      cases e <;> rw [HasD] at he
      case non => subst he; cases rv; exact SeqAt.EqAt.str_none a t0
      case bl b => subst he; cases rv; exact SeqAt.EqAt.str_bool a t0 b
      case int b => subst he; obtain ⟨t, rfl⟩ := rv; exact SeqAt.EqAt.str_int a t0 b t
      case str b => subst he; obtain ⟨t, rfl⟩ := rv; exact SeqAt.EqAt.str_str a t0 b t
      case tup es => obtain ⟨b, ys, rfl, k1, k2⟩ := he; cases rv; obtain ⟨js, vj, pj, _⟩ := I.tuple k1; exact SeqAt.EqAt.str_tuple a t0 pj hu'
      case lst es => obtain ⟨b, ys, rfl, k1, k2⟩ := he; cases rv; obtain ⟨js, vj, pj, _⟩ := I.list k1; exact SeqAt.EqAt.str_list a t0 pj.isList hu'
  | succ n ih =>
    intro d e x y u v A hn hu hd he ru rv
    have hu' : A.units < cLine := by omega
    have hu1 : A.in1.units + n < cLine := by rw [units_in1]; omega
    cases d with
    | tup ds =>
      rw [depD] at hn
      have hd0 := hd
      rw [HasD] at hd
      obtain ⟨a, xs, rfl, k1, k2⟩ := hd
      cases ru
      obtain ⟨is, vi, pi, _⟩ := I.tuple k1
      cases e with
      | tup es =>
        have he0 := he
        rw [HasD] at he
        obtain ⟨b, ys, rfl, l1, l2⟩ := he
        cases rv
        obtain ⟨js, vj, pj, _⟩ := I.tuple l1
        by_cases hab : a = b
        · subst hab
          rw [hasD_same I _ _ _ hd0 he0]
          exact SeqAt.EqAt.same _
        · have q := SeqAt.RcAt.tuples (A := A) pi pj hu' (items_eqAt k2 l2 vi vj fun d e x y u v _ hdd => ih d e x y u v A.in1 (by omega) hu1)
          obtain ⟨z1, z2⟩ := same_len k2 l2 vi vj
          rw [← z1, ← z2, range_eqDs] at q
          rw [eqD]
          exact SeqAt.EqAt.of_refs hab q
      | lst es => rw [HasD] at he; obtain ⟨b, ys, rfl, l1, l2⟩ := he; cases rv; obtain ⟨js, vj, pj, _⟩ := I.list l1; exact SeqAt.EqAt.tuple_list pi pj.isList hu'
      | non => rw [HasD] at he; subst he; cases rv; exact SeqAt.EqAt.tuple_none pi hu'
      | bl b => rw [HasD] at he; subst he; cases rv; exact SeqAt.EqAt.tuple_bool b pi hu'
      | int b => rw [HasD] at he; subst he; obtain ⟨t, rfl⟩ := rv; exact SeqAt.EqAt.tuple_int b t pi hu'
      | str b => rw [HasD] at he; subst he; obtain ⟨t, rfl⟩ := rv; exact SeqAt.EqAt.tuple_str b t pi hu'
    | lst ds =>
      rw [depD] at hn
      have hd0 := hd
      rw [HasD] at hd
      obtain ⟨a, xs, rfl, k1, k2⟩ := hd
      cases ru
      obtain ⟨is, vi, pi, _⟩ := I.list k1
      cases e with
      | lst es =>
        have he0 := he
        rw [HasD] at he
        obtain ⟨b, ys, rfl, l1, l2⟩ := he
        cases rv
        obtain ⟨js, vj, pj, _⟩ := I.list l1
        obtain ⟨z1, z2⟩ := same_len k2 l2 vi vj
        by_cases hab : a = b
        · subst hab
          rw [hasD_same I _ _ _ hd0 he0]
          exact SeqAt.EqAt.same _
        · rw [eqD]
          by_cases hsz : ds.length = es.length
          · have q := SeqAt.RcAt.lists (A := A) pi.isList pj.isList (by omega) hu' (items_eqAt k2 l2 vi vj fun d e x y u v _ hdd => ih d e x y u v A.in1 (by omega) hu1)
            rw [← z1, lists_all hsz] at q
            exact SeqAt.EqAt.of_refs hab q
          · rw [lists_no hsz]
            exact SeqAt.EqAt.of_refs hab (SeqAt.RcAt.lists_lengths pi.isList pj.isList (by rw [← z1, ← z2]; simpa using hsz) hu')
      | tup es => rw [HasD] at he; obtain ⟨b, ys, rfl, l1, l2⟩ := he; cases rv; obtain ⟨js, vj, pj, _⟩ := I.tuple l1; exact SeqAt.EqAt.list_tuple pi.isList pj hu'
      | non => rw [HasD] at he; subst he; cases rv; exact SeqAt.EqAt.list_none pi.isList hu'
      | bl b => rw [HasD] at he; subst he; cases rv; exact SeqAt.EqAt.list_bool b pi.isList hu'
      | int b => rw [HasD] at he; subst he; obtain ⟨t, rfl⟩ := rv; exact SeqAt.EqAt.list_int b t pi.isList hu'
      | str b => rw [HasD] at he; subst he; obtain ⟨t, rfl⟩ := rv; exact SeqAt.EqAt.list_str b t pi.isList hu'
    | non => exact ih _ _ _ _ _ _ _ (Nat.zero_le n) (by omega) hd he ru rv
    | bl b => exact ih _ _ _ _ _ _ _ (Nat.zero_le n) (by omega) hd he ru rv
    | int b => exact ih _ _ _ _ _ _ _ (Nat.zero_le n) (by omega) hd he ru rv
    | str b => exact ih _ _ _ _ _ _ _ (Nat.zero_le n) (by omega) hd he ru rv
end
end L2
namespace L2
open PySem PySem.Spec PyProof.Rows
section
variable {X : Cx} {pins : List (Addr × Obj)} {σ : St} {H : Hp} {s : Shared}
theorem rcAt_D (I : Inv X pins σ H s) {n : Nat} {d e : Dt} {x y : V} {u v : Value} {A : Around} (hn : depD d ≤ n) (hu : A.units + n < cLine) (hd : HasD X.K H d x) (he : HasD X.K H e y) (ru : RelV x u) (rv : RelV y v) : SeqAt.RcAt A s u v (eqD d e) := by
  have hu' : A.units < cLine := by omega
  cases d with
  | non =>
    rw [HasD] at hd; subst hd; cases ru
    cases e <;> rw [HasD] at he
    case non => subst he; cases rv; exact SeqAt.RcAt.none_none
    case bl b => subst he; cases rv; exact SeqAt.RcAt.none_bool b
    case int b => subst he; obtain ⟨t, rfl⟩ := rv; exact SeqAt.RcAt.none_int b t
    case str b => subst he; obtain ⟨t, rfl⟩ := rv; exact SeqAt.RcAt.none_str b t
    case tup es => obtain ⟨b, ys, rfl, k1, k2⟩ := he; cases rv; obtain ⟨js, vj, pj, _⟩ := I.tuple k1; exact SeqAt.RcAt.none_tuple pj hu'
    case lst es => obtain ⟨b, ys, rfl, k1, k2⟩ := he; cases rv; obtain ⟨js, vj, pj, _⟩ := I.list k1; exact SeqAt.RcAt.none_list pj.isList hu'
  | bl a =>
    rw [HasD] at hd; subst hd; cases ru
    cases e <;> rw [HasD] at he
    case non => subst he; cases rv; exact SeqAt.RcAt.bool_none a
    case bl b => subst he; cases rv; exact SeqAt.RcAt.bool_bool a b
    case int b => subst he; obtain ⟨t, rfl⟩ := rv; exact SeqAt.RcAt.bool_int a b t
    case str b => subst he; obtain ⟨t, rfl⟩ := rv; exact SeqAt.RcAt.bool_str a b t
    case tup es => obtain ⟨b, ys, rfl, k1, k2⟩ := he; cases rv; obtain ⟨js, vj, pj, _⟩ := I.tuple k1; exact SeqAt.RcAt.bool_tuple a pj hu'
    case lst es => obtain ⟨b, ys, rfl, k1, k2⟩ := he; cases rv; obtain ⟨js, vj, pj, _⟩ := I.list k1; exact SeqAt.RcAt.bool_list a pj.isList hu'
  | int a =>
    rw [HasD] at hd; subst hd; obtain ⟨t0, rfl⟩ := ru
    cases e <;> rw [HasD] at he
    case non => subst he; cases rv; exact SeqAt.RcAt.int_none a t0
    case bl b => subst he; cases rv; exact SeqAt.RcAt.int_bool a t0 b
    case int b => subst he; obtain ⟨t, rfl⟩ := rv; exact SeqAt.RcAt.int_int a t0 b t
    case str b => subst he; obtain ⟨t, rfl⟩ := rv; exact SeqAt.RcAt.int_str a t0 b t
    case tup es => obtain ⟨b, ys, rfl, k1, k2⟩ := he; cases rv; obtain ⟨js, vj, pj, _⟩ := I.tuple k1; exact SeqAt.RcAt.int_tuple a t0 pj hu'
    case lst es => obtain ⟨b, ys, rfl, k1, k2⟩ := he; cases rv; obtain ⟨js, vj, pj, _⟩ := I.list k1; exact SeqAt.RcAt.int_list a t0 pj.isList hu'
  | str a =>
    rw [HasD] at hd; subst hd; obtain ⟨t0, rfl⟩ := ru
    cases e <;> rw [HasD] at he
    case non => subst he; cases rv; exact SeqAt.RcAt.str_none a t0
    case bl b => subst he; cases rv; exact SeqAt.RcAt.str_bool a t0 b
    case int b => subst he; obtain ⟨t, rfl⟩ := rv; exact SeqAt.RcAt.str_int a t0 b t
    case str b => subst he; obtain ⟨t, rfl⟩ := rv; exact SeqAt.RcAt.str_str a t0 b t
    case tup es => obtain ⟨b, ys, rfl, k1, k2⟩ := he; cases rv; obtain ⟨js, vj, pj, _⟩ := I.tuple k1; exact SeqAt.RcAt.str_tuple a t0 pj hu'
    case lst es => obtain ⟨b, ys, rfl, k1, k2⟩ := he; cases rv; obtain ⟨js, vj, pj, _⟩ := I.list k1; exact SeqAt.RcAt.str_list a t0 pj.isList hu'
  | tup ds =>
    rw [depD] at hn
    have hu1 : A.in1.units + (n - 1) < cLine := by rw [units_in1]; omega
    rw [HasD] at hd
    obtain ⟨a, xs, rfl, k1, k2⟩ := hd
    cases ru
    obtain ⟨is, vi, pi, _⟩ := I.tuple k1
    cases e with
    | tup es =>
      rw [HasD] at he
      obtain ⟨b, ys, rfl, l1, l2⟩ := he
      cases rv
      obtain ⟨js, vj, pj, _⟩ := I.tuple l1
      have q := SeqAt.RcAt.tuples (A := A) pi pj hu' (items_eqAt k2 l2 vi vj fun d e x y u v _ hdd => eqAt_D I (n - 1) d e x y u v A.in1 (by omega) hu1)
      obtain ⟨z1, z2⟩ := same_len k2 l2 vi vj
      rw [← z1, ← z2, range_eqDs] at q
      rw [eqD]
      exact q
    | lst es => rw [HasD] at he; obtain ⟨b, ys, rfl, l1, l2⟩ := he; cases rv; obtain ⟨js, vj, pj, _⟩ := I.list l1; exact SeqAt.RcAt.tuple_list pi pj.isList hu'
    | non => rw [HasD] at he; subst he; cases rv; exact SeqAt.RcAt.tuple_none pi hu'
    | bl b => rw [HasD] at he; subst he; cases rv; exact SeqAt.RcAt.tuple_bool b pi hu'
    | int b => rw [HasD] at he; subst he; obtain ⟨t, rfl⟩ := rv; exact SeqAt.RcAt.tuple_int b t pi hu'
    | str b => rw [HasD] at he; subst he; obtain ⟨t, rfl⟩ := rv; exact SeqAt.RcAt.tuple_str b t pi hu'
  | lst ds =>
    rw [depD] at hn
    have hu1 : A.in1.units + (n - 1) < cLine := by rw [units_in1]; omega
    rw [HasD] at hd
    obtain ⟨a, xs, rfl, k1, k2⟩ := hd
    cases ru
    obtain ⟨is, vi, pi, _⟩ := I.list k1
    cases e with
    | lst es =>
      rw [HasD] at he
      obtain ⟨b, ys, rfl, l1, l2⟩ := he
      cases rv
      obtain ⟨js, vj, pj, _⟩ := I.list l1
      obtain ⟨z1, z2⟩ := same_len k2 l2 vi vj
      rw [eqD]
      by_cases hsz : ds.length = es.length
      · have q := SeqAt.RcAt.lists (A := A) pi.isList pj.isList (by omega) hu' (items_eqAt k2 l2 vi vj fun d e x y u v _ hdd => eqAt_D I (n - 1) d e x y u v A.in1 (by omega) hu1)
        rw [← z1, lists_all hsz] at q
        exact q
      · rw [lists_no hsz]
        exact SeqAt.RcAt.lists_lengths pi.isList pj.isList (by rw [← z1, ← z2]; simpa using hsz) hu'
    | tup es => rw [HasD] at he; obtain ⟨b, ys, rfl, l1, l2⟩ := he; cases rv; obtain ⟨js, vj, pj, _⟩ := I.tuple l1; exact SeqAt.RcAt.list_tuple pi.isList pj hu'
    | non => rw [HasD] at he; subst he; cases rv; exact SeqAt.RcAt.list_none pi.isList hu'
    | bl b => rw [HasD] at he; subst he; cases rv; exact SeqAt.RcAt.list_bool b pi.isList hu'
    | int b => rw [HasD] at he; subst he; obtain ⟨t, rfl⟩ := rv; exact SeqAt.RcAt.list_int b t pi.isList hu'
    | str b => rw [HasD] at he; subst he; obtain ⟨t, rfl⟩ := rv; exact SeqAt.RcAt.list_str b t pi.isList hu'
theorem rcNeAt_D (I : Inv X pins σ H s) {n : Nat} {d e : Dt} {x y : V} {u v : Value} {A : Around} (hn : depD d ≤ n) (hu : A.units + n < cLine) (hd : HasD X.K H d x) (he : HasD X.K H e y) (ru : RelV x u) (rv : RelV y v) : SeqAt.RcNeAt A s u v (!(eqD d e)) := by
  have hu' : A.units < cLine := by omega
  cases d with
  | non =>
    rw [HasD] at hd; subst hd; cases ru
    cases e <;> rw [HasD] at he
    case non => subst he; cases rv; exact SeqAt.RcNeAt.none_none
    case bl b => subst he; cases rv; exact SeqAt.RcNeAt.none_bool b
    case int b => subst he; obtain ⟨t, rfl⟩ := rv; exact SeqAt.RcNeAt.none_int b t
    case str b => subst he; obtain ⟨t, rfl⟩ := rv; exact SeqAt.RcNeAt.none_str b t
    case tup es => obtain ⟨b, ys, rfl, k1, k2⟩ := he; cases rv; obtain ⟨js, vj, pj, _⟩ := I.tuple k1; exact SeqAt.RcNeAt.none_tuple pj hu'
    case lst es => obtain ⟨b, ys, rfl, k1, k2⟩ := he; cases rv; obtain ⟨js, vj, pj, _⟩ := I.list k1; exact SeqAt.RcNeAt.none_list pj.isList hu'
  | bl a =>
    rw [HasD] at hd; subst hd; cases ru
    cases e <;> rw [HasD] at he
    case non => subst he; cases rv; exact SeqAt.RcNeAt.bool_none a
    case bl b => subst he; cases rv; exact SeqAt.RcNeAt.bool_bool a b
    case int b => subst he; obtain ⟨t, rfl⟩ := rv; exact SeqAt.RcNeAt.bool_int a b t
    case str b => subst he; obtain ⟨t, rfl⟩ := rv; exact SeqAt.RcNeAt.bool_str a b t
    case tup es => obtain ⟨b, ys, rfl, k1, k2⟩ := he; cases rv; obtain ⟨js, vj, pj, _⟩ := I.tuple k1; exact SeqAt.RcNeAt.bool_tuple a pj hu'
    case lst es => obtain ⟨b, ys, rfl, k1, k2⟩ := he; cases rv; obtain ⟨js, vj, pj, _⟩ := I.list k1; exact SeqAt.RcNeAt.bool_list a pj.isList hu'
  | int a =>
    rw [HasD] at hd; subst hd; obtain ⟨t0, rfl⟩ := ru
    cases e <;> rw [HasD] at he
    case non => subst he; cases rv; exact SeqAt.RcNeAt.int_none a t0
    case bl b => subst he; cases rv; exact SeqAt.RcNeAt.int_bool a t0 b
    case int b => subst he; obtain ⟨t, rfl⟩ := rv; exact SeqAt.RcNeAt.int_int a t0 b t
    case str b => subst he; obtain ⟨t, rfl⟩ := rv; exact SeqAt.RcNeAt.int_str a t0 b t
    case tup es => obtain ⟨b, ys, rfl, k1, k2⟩ := he; cases rv; obtain ⟨js, vj, pj, _⟩ := I.tuple k1; exact SeqAt.RcNeAt.int_tuple a t0 pj hu'
    case lst es => obtain ⟨b, ys, rfl, k1, k2⟩ := he; cases rv; obtain ⟨js, vj, pj, _⟩ := I.list k1; exact SeqAt.RcNeAt.int_list a t0 pj.isList hu'
  | str a =>
    rw [HasD] at hd; subst hd; obtain ⟨t0, rfl⟩ := ru
    cases e <;> rw [HasD] at he
    case non => subst he; cases rv; exact SeqAt.RcNeAt.str_none a t0
    case bl b => subst he; cases rv; exact SeqAt.RcNeAt.str_bool a t0 b
    case int b => subst he; obtain ⟨t, rfl⟩ := rv; exact SeqAt.RcNeAt.str_int a t0 b t
    case str b => subst he; obtain ⟨t, rfl⟩ := rv; exact SeqAt.RcNeAt.str_str a t0 b t
    case tup es => obtain ⟨b, ys, rfl, k1, k2⟩ := he; cases rv; obtain ⟨js, vj, pj, _⟩ := I.tuple k1; exact SeqAt.RcNeAt.str_tuple a t0 pj hu'
    case lst es => obtain ⟨b, ys, rfl, k1, k2⟩ := he; cases rv; obtain ⟨js, vj, pj, _⟩ := I.list k1; exact SeqAt.RcNeAt.str_list a t0 pj.isList hu'
  | tup ds =>
    rw [depD] at hn
    have hu1 : A.in1.units + (n - 1) < cLine := by rw [units_in1]; omega
    rw [HasD] at hd
    obtain ⟨a, xs, rfl, k1, k2⟩ := hd
    cases ru
    obtain ⟨is, vi, pi, _⟩ := I.tuple k1
    cases e with
    | tup es =>
      rw [HasD] at he
      obtain ⟨b, ys, rfl, l1, l2⟩ := he
      cases rv
      obtain ⟨js, vj, pj, _⟩ := I.tuple l1
      have q := SeqAt.RcNeAt.tuples (A := A) pi pj hu' (items_eqAt k2 l2 vi vj fun d e x y u v _ hdd => eqAt_D I (n - 1) d e x y u v A.in1 (by omega) hu1)
      obtain ⟨z1, z2⟩ := same_len k2 l2 vi vj
      rw [← z1, ← z2, range_eqDs] at q
      rw [eqD]
      exact q
    | lst es => rw [HasD] at he; obtain ⟨b, ys, rfl, l1, l2⟩ := he; cases rv; obtain ⟨js, vj, pj, _⟩ := I.list l1; exact SeqAt.RcNeAt.tuple_list pi pj.isList hu'
    | non => rw [HasD] at he; subst he; cases rv; exact SeqAt.RcNeAt.tuple_none pi hu'
    | bl b => rw [HasD] at he; subst he; cases rv; exact SeqAt.RcNeAt.tuple_bool b pi hu'
    | int b => rw [HasD] at he; subst he; obtain ⟨t, rfl⟩ := rv; exact SeqAt.RcNeAt.tuple_int b t pi hu'
    | str b => rw [HasD] at he; subst he; obtain ⟨t, rfl⟩ := rv; exact SeqAt.RcNeAt.tuple_str b t pi hu'
  | lst ds =>
    rw [depD] at hn
    have hu1 : A.in1.units + (n - 1) < cLine := by rw [units_in1]; omega
    rw [HasD] at hd
    obtain ⟨a, xs, rfl, k1, k2⟩ := hd
    cases ru
    obtain ⟨is, vi, pi, _⟩ := I.list k1
    cases e with
    | lst es =>
      rw [HasD] at he
      obtain ⟨b, ys, rfl, l1, l2⟩ := he
      cases rv
      obtain ⟨js, vj, pj, _⟩ := I.list l1
      obtain ⟨z1, z2⟩ := same_len k2 l2 vi vj
      rw [eqD]
      by_cases hsz : ds.length = es.length
      · have q := SeqAt.RcNeAt.lists (A := A) pi.isList pj.isList (by omega) hu' (items_eqAt k2 l2 vi vj fun d e x y u v _ hdd => eqAt_D I (n - 1) d e x y u v A.in1 (by omega) hu1)
        rw [← z1, lists_all hsz] at q
        exact q
      · rw [lists_no hsz]
        exact SeqAt.RcNeAt.lists_lengths pi.isList pj.isList (by rw [← z1, ← z2]; simpa using hsz) hu'
    | tup es => rw [HasD] at he; obtain ⟨b, ys, rfl, l1, l2⟩ := he; cases rv; obtain ⟨js, vj, pj, _⟩ := I.tuple l1; exact SeqAt.RcNeAt.list_tuple pi.isList pj hu'
    | non => rw [HasD] at he; subst he; cases rv; exact SeqAt.RcNeAt.list_none pi.isList hu'
    | bl b => rw [HasD] at he; subst he; cases rv; exact SeqAt.RcNeAt.list_bool b pi.isList hu'
    | int b => rw [HasD] at he; subst he; obtain ⟨t, rfl⟩ := rv; exact SeqAt.RcNeAt.list_int b t pi.isList hu'
    | str b => rw [HasD] at he; subst he; obtain ⟨t, rfl⟩ := rv; exact SeqAt.RcNeAt.list_str b t pi.isList hu'
end
/-- == and != by data (depth below 60) -/
def rEqD (K : PySem.W.Frag) : R2 := fun x y H Q => ∃ d e, HasD K H d x ∧ HasD K H e y ∧ depD d ≤ 60 ∧ Q (.bl (eqD d e)) H
def rNeD (K : PySem.W.Frag) : R2 := fun x y H Q => ∃ d e, HasD K H d x ∧ HasD K H e y ∧ depD d ≤ 60 ∧ Q (.bl (!eqD d e)) H
section
variable {X : Cx}
theorem op_eqD (hu : X.A.units + 64 < cLine) : OpR X (compareOp .Eq) (rEqD X.K) := by
  intro pins s σ H x y v u Q I rx ry h
  obtain ⟨d, e, hd, he, hn, q⟩ := h
  exact rcAt_D I hn (by omega) hd he rx ry _ _ _ _ ⟨.bl _, H, I, rfl, q⟩
theorem op_neD (hu : X.A.units + 64 < cLine) : OpR X (compareOp .NotEq) (rNeD X.K) := by
  intro pins s σ H x y v u Q I rx ry h
  obtain ⟨d, e, hd, he, hn, q⟩ := h
  exact rcNeAt_D I hn (by omega) hd he rx ry _ _ _ _ ⟨.bl _, H, I, rfl, q⟩
/-- x is b, x is not b, of bools -/
theorem op_isB : OpR X (compareOp .Is) (fun x y H Q => ∃ a b, x = .bl a ∧ y = .bl b ∧ Q (.bl (a == b)) H) := by
  intro pins s σ H x y v u Q I rx ry h
  obtain ⟨a, b, rfl, rfl, q⟩ := h
  cases rx
  cases ry
  exact is_bool ⟨.bl _, H, I, rfl, q⟩
end
/-! ### data that hold ints -/
theorem hasDs_ints (K : PySem.W.Frag) (H : Hp) : ∀ ns : List Int, HasDs K H (ns.map Dt.int) (ns.map V.int)
  | [] => by rw [List.map_nil, List.map_nil, HasDs]
  | n :: ns => by
    rw [List.map_cons, List.map_cons, HasDs]
    exact ⟨_, _, rfl, by rw [HasD], hasDs_ints K H ns⟩
theorem hasD_listI {K : PySem.W.Frag} {H : Hp} {a : Addr} {ns : List Int} (h : SqL K H a (ns.map V.int)) : HasD K H (.lst (ns.map Dt.int)) (.ref a) := by
  rw [HasD]
  exact ⟨a, _, rfl, h, hasDs_ints K H ns⟩
theorem hasD_tupI {K : PySem.W.Frag} {H : Hp} {a : Addr} {ns : List Int} (h : SqT K H a (ns.map V.int)) : HasD K H (.tup (ns.map Dt.int)) (.ref a) := by
  rw [HasD]
  exact ⟨a, _, rfl, h, hasDs_ints K H ns⟩
theorem depDs_ints : ∀ ns : List Int, depDs (ns.map Dt.int) = 0
  | [] => by rw [List.map_nil, depDs]
  | n :: ns => by
    show max (depD (Dt.int n)) (depDs (ns.map Dt.int)) = 0
    rw [depDs_ints ns]
    rfl
theorem eqDs_ints : ∀ ms ns : List Int, eqDs (ms.map Dt.int) (ns.map Dt.int) = decide (ms = ns)
  | [], [] => by simp [eqDs]
  | [], n :: ns => by simp [eqDs]
  | m :: ms, [] => by simp [eqDs]
  | m :: ms, n :: ns => by
    rw [List.map_cons, List.map_cons, eqDs, eqDs_ints ms ns, eqD]
    by_cases h : m = n
    · subst h; simp
    · simp [h]
theorem eqD_listI (ms ns : List Int) : eqD (.lst (ms.map Dt.int)) (.lst (ns.map Dt.int)) = decide (ms = ns) := by rw [eqD, eqDs_ints]
theorem eqD_tupI (ms ns : List Int) : eqD (.tup (ms.map Dt.int)) (.tup (ns.map Dt.int)) = decide (ms = ns) := by rw [eqD, eqDs_ints]
theorem dep_listI (ns : List Int) : depD (.lst (ns.map Dt.int)) ≤ 60 := by rw [depD, depDs_ints]; decide
theorem dep_tupI (ns : List Int) : depD (.tup (ns.map Dt.int)) ≤ 60 := by rw [depD, depDs_ints]; decide
end L2
/-! OWN RULES: an item for op=, keywords, defaults of keyword parameters -/
namespace L2
open PySem PySem.Spec PyProof.Rows
section
variable {X : Cx}
end
theorem bd_kw1 {K : PySem.W.Frag} {fd : FuncData} {p k : Str} {kd : Addr} {v : Value} (e : PySem.W.nsIn K kd k = some (some v)) (hp : fd.params.posonlyargs = []) (ha : fd.params.args.map (·.arg) = [p]) (hv : fd.params.vararg = none) (hk : fd.params.kwonlyargs.map (·.arg) = [k])
    (hkw : fd.params.kwarg = none) (hd : fd.defaults = .none) (hkd : fd.kwdefaults = .ref kd) (hpk : (k == p) = false) : Binds K fd [p, k] [v] := by
  intro s us KX hl
  obtain ⟨u, rfl⟩ : ∃ u, us = [u] := by
    match us, hl with
    | [u], _ => exact ⟨u, rfl⟩
    | _ :: _ :: _, hl => simp at hl
  intro Mo A E Q hq
  have L := PySem.W.looks_nsIn (M := Mo) KX e
  unfold bindArgs
  have hz : seqItems? Value.none = pure none := rfl
  simp only [hp, ha, hv, hk, hkw, hd, hkd, hz, List.map_nil, List.nil_append, List.length_cons, List.length_nil, List.zip_cons_cons, List.zip_nil_right, pure_bind, Option.getD_none, List.forIn_nil]
  simp [List.lookup_cons, hpk]
  refine wpAny_bind (L A _ E s (fun _ _ h => h) ?_)
  simp [List.lookup_cons, hpk]
  exact wpAny_pure hq
end L2
/-! OWN RULES: exceptions that leave a def -/
namespace L2
open PySem PySem.Spec PyProof.Rows

theorem ObjOk.there {P : Program} {w : World} {H : Hp} {h : Heap} {a : Addr} {o : HO} (x : ObjOk P w H h a o) : ∃ ob, h.get? a = some ob := by
  cases o with
  | lst xs => obtain ⟨_, _, _, _, e⟩ := x; exact ⟨_, e⟩
  | tup xs => obtain ⟨_, _, _, p⟩ := x; obtain ⟨o, e, _⟩ := p; exact ⟨_, e⟩
  | dK kvs => obtain ⟨_, _, _, _, o, _, _, e, _⟩ := x; exact ⟨_, e⟩
  | dT kvs => obtain ⟨_, _, _, _, o, _, _, e, _⟩ := x; exact ⟨_, e⟩
  | set S n => obtain ⟨o, _, _, _, e, _⟩ := x; exact ⟨_, e⟩
  | ins C dx fs => obtain ⟨_, _, _, e, _⟩ := x; exact ⟨_, e⟩
  | own y => obtain ⟨_, e⟩ := x; exact ⟨_, e⟩
  | xd fs => obtain ⟨_, ⟨_, _, _, e, _⟩, _⟩ := x; exact ⟨_, e⟩
  | rng lo hi => obtain ⟨_, _, _, e⟩ := x; exact ⟨_, e⟩
  | frz ob u => obtain ⟨e, _⟩ := x; exact ⟨_, e⟩
  | tbl ps => exact ⟨_, (show h.get? a = some _ from x)⟩
  | met f y => exact ⟨_, (show h.get? a = some _ from x)⟩
  | ext φ => obtain ⟨_, ⟨_, e⟩, _⟩ := x; exact ⟨_, e⟩

/-- an exception on its way to the frames l, from the state of the call -/
structure Fly (P : Program) (w : World) (l : List Env) (H H' : Hp) (s s' : Shared) (ea : Addr) (cls : Value) : Prop where
  os : s'.os = s.os
  bare : AllBare s'.gens
  un : Un (frs l) [] H H' s.heap s'.heap
  hok : HOk P w H' s'.heap
  fly : ∃ (B : Heap) (t : Addr), Heap.FlyingW B l ea cls (.ref t) s'.heap ∧ (∀ b o o', s.heap.get? b = some o → s'.heap.get? b = some o' → b ∉ frs l → B.get? b = some o') ∧ (∀ b u o', H' b = some u → s'.heap.get? b = some o' → B.get? b = some o')
  new : s.heap.get? ea = none
section
variable {X : Cx} {pins : List (Addr × Obj)} {σ : St} {H H' : Hp} {s s' : Shared} {ea : Addr} {cls : Value}
end

section
variable {P : Program} {w : World} {K : PySem.W.Frag} {mg : Str → Option Value} {base : Heap} {N : List Str} {qual : Str} {scope : Scope} {f : Addr} {cd : Value} {A : Around} {outer : List Env} {s : Shared} {H : Hp} {E : XK}
end
end L2
/-! OWN RULES: raise, calls whose exceptions are caught, try .. except C as n -/
namespace L2
open PySem PySem.Spec PyProof.Rows

section
variable {X : Cx}
end

section
variable {X : Cx} {pins pn : List (Addr × Obj)} {σ : St} {H H' : Hp} {s s' : Shared}
end
end L2
/-! OWN RULES: try: .. except C as n: .. -/
namespace L2
open PySem PySem.Spec PyProof.Rows
section
variable {X : Cx}
end
end L2
/-! OWN RULES: isinstance of a caught exception -/
namespace L2
open PySem PySem.Spec PyProof.Rows
/-- what is asked of an own exception class for isinstance -/
structure XIs (K : PySem.W.Frag) (C : Addr) : Prop where
  ga : PySem.W.findIn K (.ref C) "__getattribute__" = some (some (.builtin "BaseException.__getattribute__"))
  gn : PySem.W.findIn K (.ref C) "__getattr__" = some none
  cl : PySem.W.findIn K (.ref C) "__class__" = some (some (.builtin "object.__class__"))
  be : PySem.W.mroIn K C (.type "BaseException") = some true
  ob : PySem.W.mroIn K C (.type "object") = some true
  is : (PySem.W.clsIn K C).isSome = true
section
variable {prog : Program} {w : World} {A : Around} {E : Value → Shared → Prop} {K : PySem.W.Frag} {h : Heap} {g : Array GenState} {d : Drawn} {t : Nat} {os : OsState} {a C : Addr} {o : Obj}
end
section
variable {X : Cx}
end
end L2
/-! OWN RULES: count and index of bools; a def from which exceptions may leave -/
namespace L2
open PySem PySem.Spec PyProof.Rows
section
variable {X : Cx}
end
section
variable {P : Program} {w : World} {K : PySem.W.Frag} {mg : Str → Option Value} {base : Heap}
end
end L2
namespace L2
open PySem
end L2
namespace L2
open PySem PySem.Spec PyProof.Rows
/-- whether an item is written with a star -/
def isStar : Expr → Bool
  | .Starred _ _ => true
  | _ => false
theorem starEach_no {e : Expr} {es : List Expr} {env : Env} (h : isStar e = false) : starEach (e :: es) env = (false, eval e env) :: starEach es env := by
  cases e <;> first | rfl | cases h
section
variable {X : Cx} {e : Expr} {es : List Expr} {te : TE} {t : TA}
/-- pa_cons for long rows: the side condition looks at the first item alone -/
theorem pa_more (ha : PE X e te) (hr : PA X es t) (h : isStar e = false := by rfl) : PA X (e :: es) (tCons te t) := pa_cons ha hr (starEach_no h)
end
end L2
/-! OWN RULES: range objects; tuples made of them, turned about, repeated, cut whole; calls with three keywords -/
namespace L2
open PySem PySem.Spec PyProof.Rows
section
variable {prog : Program} {w : World} {A : Around} {E : Value → Shared → Prop} {s : Shared}
end
section
variable {X : Cx}
end
def kb12 {α : Type} : List α → List α → List α
  | [u0], [w0, w1] => [u0, w0, w1]
  | _, _ => []
theorem kb_rel12 {vs : List V} {us : List Value} {zs : List V} {ws : List Value} (r1 : Vals vs us) (r2 : Vals zs ws) : Vals (kb12 vs zs) (kb12 us ws) := by
  rcases r1 with _ | ⟨a, _ | ⟨_, _⟩⟩ <;> rcases r2 with _ | ⟨b, _ | ⟨c, _ | ⟨_, _⟩⟩⟩
  all_goals first | exact .nil | exact .cons a (.cons b (.cons c .nil))
end L2
/-! OWN RULES: t[::-1], t[a:] that may be the whole, t * n -/
namespace L2
open PySem PySem.Spec PyProof.Rows
section
open PySem.SeqAt
open PySem.MeetsSeq PySem.MeetsSeq2 PySem.MeetsSeq3
end
end L2
namespace L2
open PySem PySem.Spec PyProof.Rows
section
variable {X : Cx}
end
end L2
/-! OWN RULES: t[::-1], t[a:] that may be the whole -/
namespace HT
open PySem PyProof.Rows
section
variable {prog : Program} {w : World} {A : Around} {E : Value → Shared → Prop} {s : Shared}
end
end HT
namespace L2
open PySem PySem.Spec PyProof.Rows
section
variable {X : Cx}
end
end L2
/-! OWN RULES: rows of written things: ints, bools, texts, None, a - b of written ints; tuples and lists of these -/
namespace L2
open PySem PySem.Spec PyProof.Rows
/-- a written thing: a plain one, or a tuple or list of such -/
inductive Lit where
  | c (v : V) | t (vs : List V) | l (vs : List V) | r (vs : List V) (k : Int)
section
variable {X : Cx}
end
/-- a written thing as it stands in H, new since G -/
def LitAt (G H : Hp) : Lit → V → Prop
  | .c v, x => x = v
  | .t xs, x => ∃ p, x = .ref p ∧ G p = none ∧ H p = some (.tup xs)
  | .l xs, x => ∃ p, x = .ref p ∧ G p = none ∧ H p = some (.lst xs)
  | .r xs k, x => ∃ p, x = .ref p ∧ G p = none ∧ H p = some (.lst (List.replicate k.toNat xs).flatten)
theorem LitAt.keep {G H H' : Hp} (s : ∀ p o, G p = none → H p = some o → H' p = some o) : ∀ {l : Lit} {x : V}, LitAt G H l x → LitAt G H' l x
  | .c v, x, h => h
  | .t xs, x, ⟨p, e, g, h⟩ => ⟨p, e, g, s _ _ g h⟩
  | .l xs, x, ⟨p, e, g, h⟩ => ⟨p, e, g, s _ _ g h⟩
  | .r xs k, x, ⟨p, e, g, h⟩ => ⟨p, e, g, s _ _ g h⟩
theorem LitAt.same {G H H' : Hp} (s : Same H H') {l : Lit} {x : V} (h : LitAt G H l x) : LitAt G H' l x := h.keep fun p o _ e => s p o e
end L2
/-! OWN RULES: texts with braces -/
namespace L2
open PySem PySem.Spec PyProof.Rows
section
variable {X : Cx} {e v1 v2 : Expr} {es : List Expr} {te : TE} {t : Str → TE} {pos : Pos}
end
end L2
/-! OWN RULES: a dict is held fast while a loop walks it, and let go again; its keys walked -/
namespace L2
open PySem PySem.Spec PyProof.Rows
section
variable {X : Cx} {pins : List (Addr × Obj)} {σ : St} {H : Hp} {s : Shared} {a : Addr} {o : Obj} {u : HO}
theorem Inv.freeze (I : Inv X pins σ H s) (hm : Mut (some u)) (ha : H a = some u) (ho : s.heap.get? a = some o) : Inv X pins σ (upd H a (.frz o u)) s := by
  have new : ObjOk X.prog X.w (upd H a (.frz o u)) s.heap a (.frz o u) := by
    refine ⟨ho, (I.hok a u ha).stay (fun _ _ _ q => q) (fun c q => ?_) fun c xs q => ?_⟩
    · have hc : c ≠ a := fun z => by
        subst z
        rw [ha] at q
        cases q
        exact hm
      rw [upd_ne hc]
      exact q
    · have hc : c ≠ a := fun z => by
        subst z
        rw [ha] at q
        cases q
        exact hm
      rw [upd_ne hc]
      exact q
  exact I.write (t' := s.toks) (x := a) (e := a) (o := .frz o u) (h' := s.heap) (by rw [ha]; exact hm) (.inl rfl) (fun b v _ q => q) ⟨o, ho⟩ new
theorem Inv.thaw (I : Inv X pins σ H s) (ha : H a = some (.frz o u)) (h0 : ∀ o' u', X.H₀ a ≠ some (.frz o' u')) (hm : Mut (some u)) : Inv X pins σ (upd H a u) s := by
  have ne : ∀ {b : Addr} {v : HO}, H b = some v → (∀ o' u', v ≠ .frz o' u') → b ≠ a := fun {b v} e h z => by
    subst z
    rw [ha] at e
    exact h _ _ (Option.some.inj e).symm
  have nen : ∀ {b : Addr}, H b = none → b ≠ a := fun {b} e z => by
    subst z
    rw [ha] at e
    cases e
  refine ⟨I.ok, I.os, I.bare, ⟨I.base.keep, I.base.slot, fun b ob e n hx => ?_, I.base.there, fun b xs q => ?_, fun b ob v q => ?_, fun b ps q => ?_⟩, I.loc, I.cell, ?_, fun x c e => ?_, fun p hp => ?_, fun b v e => ?_, I.len⟩
  · have q := I.base.free b ob e n hx
    rw [upd_ne (nen q)]
    exact q
  · have q' := I.base.tups b xs q
    rw [upd_ne (ne q' fun _ _ z => nomatch z)]
    exact q'
  · have hb : b ≠ a := fun z => by
      subst z
      exact h0 _ _ q
    rw [upd_ne hb]
    exact I.base.frzs b ob v q
  · obtain ⟨more, z⟩ := I.base.tbls b ps q
    exact ⟨more, by rw [upd_ne (ne z fun _ _ z => nomatch z)]; exact z⟩
  · rw [upd_ne (nen I.free)]
    exact I.free
  · rw [upd_ne (nen (I.freeC x c e))]
    exact I.freeC x c e
  · obtain ⟨q1, q2, q3⟩ := I.pin p hp
    exact ⟨q1, by rw [upd_ne (nen q2)]; exact q2, q3⟩
  · have own : ∀ (c y : Addr), H c = some (.own y) → upd H a u c = some (.own y) := fun c y q => by
      rw [upd_ne (ne q fun _ _ z => nomatch z)]
      exact q
    have tup : ∀ (c : Addr) (xs : List V), H c = some (.tup xs) → upd H a u c = some (.tup xs) := fun c xs q => by
      rw [upd_ne (ne q fun _ _ z => nomatch z)]
      exact q
    by_cases hb : b = a
    · subst hb
      rw [upd_same] at e
      cases e
      obtain ⟨_, q⟩ := I.hok _ _ ha
      exact q.stay (fun _ _ _ q => q) (fun c q => own c _ q) tup
    · rw [upd_ne hb] at e
      exact (I.hok b v e).stay (fun _ _ _ q => q) (fun c q => own c _ q) tup
/-- what is held fast is let go behind a statement -/
def tThaw (H0 : Hp) (t : TS) : TS := fun D σ H =>
  let un : (Hp → Prop) → Hp → Prop := fun Q H' => ∃ a o u, H' a = some (.frz o u) ∧ (∀ o' u', H0 a ≠ some (.frz o' u')) ∧ Mut (some u) ∧ Q (upd H' a u)
  t { nx := fun σ' H' => un (D.nx σ') H', rt := fun v H' => un (D.rt v) H', bk := D.bk, ct := D.ct } σ H
theorem ps_thaw {st : Stmt} {t : TS} (h : PS X st t) : PS X st (tThaw X.H₀ t) := by
  intro pins s σ H D I q
  refine thn (h pins s σ H _ I q) fun f s1 q1 => ?_
  cases f with
  | next =>
    obtain ⟨σ1, H1, I1, a, o, u, ha, h0, hm, q⟩ := q1
    exact ⟨σ1, _, I1.thaw ha h0 hm, q⟩
  | ret v =>
    obtain ⟨x, σ1, H1, I1, r, a, o, u, ha, h0, hm, q⟩ := q1
    exact ⟨x, σ1, _, I1.thaw ha h0 hm, r, q⟩
  | brk => exact q1
  | cont => exact q1
/-- .. behind an expression -/
def tThawE (H0 : Hp) (t : TE) : TE := fun σ H Q => t σ H fun v H' => ∃ a o u, H' a = some (.frz o u) ∧ (∀ o' u', H0 a ≠ some (.frz o' u')) ∧ Mut (some u) ∧ Q v (upd H' a u)
theorem pe_thaw {e : Expr} {t : TE} (h : PE X e t) : PE X e (tThawE X.H₀ t) := by
  intro pins s σ H Q I q
  refine thn (h pins s σ H _ I q) fun v s1 ⟨x, H1, I1, r, a, o, u, ha, h0, hm, q⟩ => ?_
  exact ⟨x, _, I1.thaw ha h0 hm, r, q⟩
end
end L2
/-! OWN RULES: d.values() walked -/
namespace L2
open PySem PySem.Spec PyProof.Rows
section
variable {X : Cx}
end
end L2
/-! sorted of unlike tuples of ints -/
namespace SortT
open PySem PyProof.Rows PySem.W
/-- what a row of questions finds, where every question is answered by f and asks of two unlike things of n -/
def Wp (f : Nat → Nat → Bool) (n : Nat) {α : Type} : KasT α → (α → Prop) → Prop
  | .ret a, R => R a
  | .ask i j k, R => i < n ∧ j < n ∧ i ≠ j ∧ Wp f n (k (f i j)) R
theorem Wp.mono {f : Nat → Nat → Bool} {n : Nat} {α : Type} {R R' : α → Prop} (h : ∀ a, R a → R' a) : ∀ {t : KasT α}, Wp f n t R → Wp f n t R'
  | .ret a, q => h a q
  | .ask _ _ _, ⟨a, b, c, q⟩ => ⟨a, b, c, Wp.mono h q⟩
theorem Wp.bind {f : Nat → Nat → Bool} {n : Nat} {α β : Type} {g : α → KasT β} {R : β → Prop} : ∀ {t : KasT α}, Wp f n t (fun a => Wp f n (g a) R) → Wp f n (t.bind g) R
  | .ret _, q => q
  | .ask _ _ _, ⟨a, b, c, q⟩ => ⟨a, b, c, Wp.bind q⟩
structure Tot (f : Nat → Nat → Bool) (n : Nat) : Prop where
  tot : ∀ i j, i < n → j < n → i ≠ j → f i j = false → f j i = true
  asy : ∀ i j, i < n → j < n → f i j = true → f j i = false
  tr : ∀ i j k, i < n → j < n → k < n → f i j = true → f j k = true → f i k = true
def P (n : Nat) (p : Array Nat) : Prop := p.toList.Perm (List.range n)
section
variable {n : Nat} {p : Array Nat}
theorem P.size (h : P n p) : p.size = n := by
  have := h.length_eq
  rw [List.length_range] at this
  simpa using this
theorem getD_eq {k : Nat} (h : k < p.size) : p.getD k 0 = p[k] := by simp [Array.getD, h]
theorem P.lt (h : P n p) {k : Nat} (hk : k < n) : p.getD k 0 < n := by
  have hs := h.size
  rw [getD_eq (by omega)]
  exact List.mem_range.mp (h.mem_iff.mp (by simp))
theorem P.inj (h : P n p) {a b : Nat} (ha : a < n) (hb : b < n) (e : p.getD a 0 = p.getD b 0) : a = b := by
  have hs := h.size
  rw [getD_eq (by omega), getD_eq (by omega)] at e
  have nd : p.toList.Nodup := h.nodup_iff.mpr List.nodup_range
  exact (List.getElem_inj (h₀ := by simp; omega) (h₁ := by simp; omega) nd).mp (by simpa using e)
def Up (f : Nat → Nat → Bool) (p : Array Nat) (m : Nat) : Prop := ∀ a b, a < b → b < m → f (p.getD a 0) (p.getD b 0) = true
def Down (f : Nat → Nat → Bool) (p : Array Nat) (m : Nat) : Prop := ∀ a b, a < b → b < m → f (p.getD b 0) (p.getD a 0) = true
variable {f : Nat → Nat → Bool}
theorem Up.more (T : Tot f n) (hp : P n p) {m : Nat} (h1 : 1 ≤ m) (hm : m < n) (u : Up f p m) (h : f (p.getD (m - 1) 0) (p.getD m 0) = true) : Up f p (m + 1) := by
  intro a b ab bm
  by_cases e : b = m
  · subst e
    by_cases e2 : a = b - 1
    · subst e2
      exact h
    · exact T.tr _ _ _ (hp.lt (by omega)) (hp.lt (by omega)) (hp.lt hm) (u a (b - 1) (by omega) (by omega)) h
  · exact u a b ab (by omega)
theorem Down.more (T : Tot f n) (hp : P n p) {m : Nat} (h1 : 1 ≤ m) (hm : m < n) (u : Down f p m) (h : f (p.getD m 0) (p.getD (m - 1) 0) = true) : Down f p (m + 1) := by
  intro a b ab bm
  by_cases e : b = m
  · subst e
    by_cases e2 : a = b - 1
    · subst e2
      exact h
    · exact T.tr _ _ _ (hp.lt hm) (hp.lt (by omega)) (hp.lt (by omega)) h (u a (b - 1) (by omega) (by omega))
  · exact u a b ab (by omega)
theorem asc (T : Tot f n) (hp : P n p) : ∀ (c m : Nat), 1 ≤ m → m + c ≤ n → Up f p m → Wp f n (kas_asc p c m) fun r => m ≤ r ∧ r ≤ m + c ∧ Up f p r ∧ (r < m + c → f (p.getD r 0) (p.getD (r - 1) 0) = true)
  | 0, m, _, _, u => ⟨Nat.le_refl _, Nat.le_refl _, u, fun h => absurd h (by omega)⟩
  | c + 1, m, h1, hm, u => by
    refine ⟨hp.lt (by omega), hp.lt (by omega), fun e => ?_, ?_⟩
    · have := hp.inj (by omega) (by omega) e
      omega
    cases h : f (p.getD m 0) (p.getD (m - 1) 0) with
    | true => exact ⟨Nat.le_refl _, by omega, u, fun _ => h⟩
    | false =>
      have u' := u.more T hp h1 (by omega) (T.tot _ _ (hp.lt (by omega)) (hp.lt (by omega)) (fun e => by have := hp.inj (by omega) (by omega) e; omega) h)
      show Wp f n (kas_asc p c (m + 1)) _
      refine (asc T hp c (m + 1) (by omega) (by omega) u').mono fun r q => ?_
      exact ⟨by omega, by omega, q.2.2.1, fun z => q.2.2.2 (by omega)⟩
theorem desc (T : Tot f n) (hp : P n p) : ∀ (c m : Nat), 2 ≤ m → m + c ≤ n → Down f p m → Wp f n (kas_desc c p m 0) fun r => r.1 = p ∧ r.2.2 = 0 ∧ m ≤ r.2.1 ∧ r.2.1 ≤ m + c ∧ Down f p r.2.1
  | 0, m, _, _, u => ⟨rfl, rfl, Nat.le_refl _, Nat.le_refl _, u⟩
  | c + 1, m, h1, hm, u => by
    refine ⟨hp.lt (by omega), hp.lt (by omega), fun e => ?_, ?_⟩
    · have := hp.inj (by omega) (by omega) e
      omega
    cases h : f (p.getD m 0) (p.getD (m - 1) 0) with
    | true =>
      show Wp f n (kas_desc c p (m + 1) 0) _
      refine (desc T hp c (m + 1) (by omega) (by omega) (u.more T hp (by omega) (by omega) h)).mono fun r q => ?_
      exact ⟨q.1, q.2.1, by omega, by omega, q.2.2.2.2⟩
    | false =>
      have h' := T.tot _ _ (hp.lt (by omega)) (hp.lt (by omega)) (fun e => by have := hp.inj (by omega) (by omega) e; omega) h
      refine ⟨hp.lt (by omega), hp.lt (by omega), fun e => ?_, ?_⟩
      · have := hp.inj (by omega) (by omega) e
        omega
      rw [h']
      exact ⟨rfl, rfl, Nat.le_refl _, Nat.le_add_right _ _, u⟩
theorem getD_of {q : Array Nat} {a b : Nat} (e : q[a]? = p[b]?) : q.getD a 0 = p.getD b 0 := by
  rw [Array.getD_eq_getD_getElem?, Array.getD_eq_getD_getElem?, e]
theorem rev_at (hp : P n p) {m : Nat} (hm : m ≤ n) (k : Nat) : (kas_rev p 0 m).getD k 0 = if k < m then p.getD (m - 1 - k) 0 else p.getD k 0 := by
  have h := getElem?_mirror_all (xs := p) (i := 0) (j := m) (by rw [hp.size]; exact hm) k
  by_cases hk : k < m
  · rw [if_pos hk]
    rw [if_pos ⟨Nat.zero_le _, hk⟩] at h
    refine getD_of (h.trans ?_)
    congr 1
    omega
  · rw [if_neg hk]
    rw [if_neg (by omega)] at h
    exact getD_of h
theorem rev_P (hp : P n p) (m : Nat) : P n (kas_rev p 0 m) := (Array.perm_iff_toList_perm.mp (mirror_perm p 0 m _)).trans hp
theorem rev_up (hp : P n p) {m : Nat} (hm : m ≤ n) (d : Down f p m) : Up f (kas_rev p 0 m) m := by
  intro a b ab bm
  rw [rev_at hp hm, rev_at hp hm, if_pos (by omega), if_pos bm]
  exact d _ _ (by omega) (by omega)
theorem tail3 (T : Tot f n) (hp : P n p) {m : Nat} (h1 : 1 ≤ m) (hm : m ≤ n) (d : Down f p m) : Wp f n (kas_tail3 m n p) fun r => 1 ≤ r.1 ∧ r.1 ≤ n ∧ P n r.2 ∧ Up f r.2 r.1 := by
  refine Wp.bind ((asc T (rev_P hp m) (n - m) m h1 (by omega) (rev_up hp hm d)).mono fun r q => ?_)
  exact ⟨by omega, by omega, rev_P hp m, q.2.2.1⟩
theorem count (T : Tot f n) (hp : P n p) (h1 : 1 ≤ n) : Wp f n (kas_count n p) fun r => 1 ≤ r.1 ∧ r.1 ≤ n ∧ P n r.2 ∧ Up f r.2 r.1 := by
  refine Wp.bind ((asc T hp (n - 1) 1 (Nat.le_refl _) (by omega) (fun a b ab hb => absurd hb (by omega))).mono fun m q => ?_)
  obtain ⟨q1, q2, q3, q4⟩ := q
  by_cases e : m = n
  · rw [if_pos (by simp [e])]
    exact ⟨q1, by omega, hp, q3⟩
  · rw [if_neg (by simp [e])]
    by_cases e2 : m > 1
    · rw [if_pos e2]
      refine ⟨hp.lt (by omega), hp.lt (by omega), fun z => ?_, ?_⟩
      · have := hp.inj (by omega) (by omega) z
        omega
      rw [q3 0 (m - 1) (by omega) (by omega)]
      exact ⟨q1, by omega, hp, q3⟩
    · rw [if_neg e2]
      have e3 : m = 1 := by omega
      subst e3
      have h := q4 (by omega)
      have d2 : Down f p 2 := fun a b ab hb => by
        have ea : a = 0 := by omega
        have eb : b = 1 := by omega
        subst ea eb
        exact h
      refine Wp.bind ((desc T hp (n - 2) 2 (Nat.le_refl _) (by omega) d2).mono fun r q => ?_)
      obtain ⟨r1, r2, r3, r4, r5⟩ := q
      rw [if_neg (by omega), r1]
      exact tail3 T hp (by omega) (by omega) r5
theorem place (T : Tot f n) (hp : P n p) {k : Nat} (hk : k < n) (u : Up f p k) : ∀ (c l r : Nat), l ≤ r → r ≤ k → r - l ≤ c → (∀ i, i < l → f (p.getD i 0) (p.getD k 0) = true) → (∀ i, r ≤ i → i < k → f (p.getD k 0) (p.getD i 0) = true) →
    Wp f n (kas_place p k c l r) fun q => q ≤ k ∧ (∀ i, i < q → f (p.getD i 0) (p.getD k 0) = true) ∧ (∀ i, q ≤ i → i < k → f (p.getD k 0) (p.getD i 0) = true)
  | 0, l, r, h1, h2, h3, h4, h5 => ⟨by omega, h4, fun i a b => h5 i (by omega) b⟩
  | c + 1, l, r, h1, h2, h3, h4, h5 => by
    show Wp f n (if l ≥ r then .ret l else _) _
    by_cases e : l ≥ r
    · rw [if_pos e]
      exact ⟨by omega, h4, fun i a b => h5 i (by omega) b⟩
    · rw [if_neg e]
      refine ⟨hp.lt hk, hp.lt (by omega), fun z => ?_, ?_⟩
      · have := hp.inj hk (by omega) z
        omega
      cases h : f (p.getD k 0) (p.getD ((l + r) / 2) 0) with
      | true =>
        show Wp f n (kas_place p k c l ((l + r) / 2)) _
        refine place T hp hk u c l _ (by omega) (by omega) (by omega) h4 fun i a b => ?_
        by_cases ei : i = (l + r) / 2
        · rw [ei]
          exact h
        · exact T.tr _ _ _ (hp.lt hk) (hp.lt (by omega)) (hp.lt (by omega)) h (u _ _ (by omega) b)
      | false =>
        have h' := T.tot _ _ (hp.lt hk) (hp.lt (by omega)) (fun z => by have := hp.inj hk (by omega) z; omega) h
        show Wp f n (kas_place p k c ((l + r) / 2 + 1) r) _
        refine place T hp hk u c _ r (by omega) h2 (by omega) (fun i a => ?_) h5
        by_cases ei : i = (l + r) / 2
        · rw [ei]
          exact h'
        · exact T.tr _ _ _ (hp.lt (by omega)) (hp.lt (by omega)) (hp.lt hk) (u _ _ (by omega) (by omega)) h'
theorem bubble_at (hp : P n p) {k l : Nat} (hk : k < n) (hl : l ≤ k) (i : Nat) : (bubble p k (k - l)).getD i 0 = if i = l then p.getD k 0 else if l < i ∧ i ≤ k then p.getD (i - 1) 0 else p.getD i 0 := by
  have h := getElem?_bubble (xs := p) (src := k) (by rw [hp.size]; exact hk) (k - l) (by omega) i
  rw [show k - (k - l) = l by omega] at h
  by_cases e : i = l
  · rw [if_pos e] at h ⊢
    exact getD_of h
  · rw [if_neg e] at h ⊢
    by_cases e2 : l < i ∧ i ≤ k
    · rw [if_pos e2] at h ⊢
      exact getD_of h
    · rw [if_neg e2] at h ⊢
      exact getD_of h
theorem bubble_up (hp : P n p) {k l : Nat} (hk : k < n) (hl : l ≤ k) (u : Up f p k) (h1 : ∀ i, i < l → f (p.getD i 0) (p.getD k 0) = true) (h2 : ∀ i, l ≤ i → i < k → f (p.getD k 0) (p.getD i 0) = true) : Up f (bubble p k (k - l)) (k + 1) := by
  intro a b ab bm
  rw [bubble_at hp hk hl, bubble_at hp hk hl]
  by_cases ea : a = l
  · rw [if_pos ea, if_neg (by omega), if_pos ⟨by omega, by omega⟩]
    exact h2 _ (by omega) (by omega)
  · rw [if_neg ea]
    by_cases eb : b = l
    · rw [if_neg (by omega), if_pos eb]
      exact h1 _ (by omega)
    · rw [if_neg eb]
      by_cases e1 : l < a ∧ a ≤ k
      · rw [if_pos e1, if_pos ⟨by omega, by omega⟩]
        exact u _ _ (by omega) (by omega)
      · rw [if_neg e1]
        by_cases e2 : l < b ∧ b ≤ k
        · rw [if_pos e2]
          exact u _ _ (by omega) (by omega)
        · rw [if_neg e2]
          exact u _ _ ab (by omega)
theorem bubble_P (hp : P n p) (k d : Nat) : P n (bubble p k d) := (Array.perm_iff_toList_perm.mp (bubble_perm p k d)).trans hp
end
theorem bin {f : Nat → Nat → Bool} {n : Nat} (T : Tot f n) : ∀ (c : Nat) (p : Array Nat) (k : Nat), P n p → k + c ≤ n → Up f p k → Wp f n (kas_bin c p k) fun r => P n r ∧ Up f r (k + c)
  | 0, p, k, hp, _, u => ⟨hp, u⟩
  | c + 1, p, k, hp, hk, u => by
    refine Wp.bind ((place T hp (k := k) (by omega) u k 0 k (Nat.zero_le _) (Nat.le_refl _) (by omega) (fun i h => absurd h (by omega)) (fun i a b => absurd b (by omega))).mono fun l q => ?_)
    refine (bin T c _ (k + 1) (bubble_P hp k _) (by omega) (bubble_up hp (by omega) q.1 u q.2.1 q.2.2)).mono fun r q => ?_
    rw [show k + 1 + c = k + (c + 1) by omega] at q
    exact q
theorem range_P (n : Nat) : P n (List.toArray (List.range n)) := by
  unfold P
  rw [List.toList_toArray]
theorem sort {f : Nat → Nat → Bool} {n : Nat} (T : Tot f n) (h1 : 1 ≤ n) : Wp f n (kas_sort n) fun r => P n r ∧ Up f r n := by
  refine Wp.bind ((count T (range_P n) h1).mono fun r q => ?_)
  obtain ⟨q1, q2, q3, q4⟩ := q
  by_cases e : r.1 < n
  · rw [if_pos e]
    refine (bin T _ _ _ q3 (by omega) (by rw [show max r.1 1 = r.1 by omega]; exact q4)).mono fun z q => ?_
    rw [show max r.1 1 + (n - max r.1 1) = n by omega] at q
    exact q
  · rw [if_neg e]
    exact ⟨q3, by rw [show n = r.1 by omega]; exact q4⟩
end SortT
namespace L2
open PySem PySem.Spec PyProof.Rows PySem.W
section
variable {prog : Program} {w : World} {A : Around} {E : Value → Shared → Prop} {s : Shared}
/-- the order of two rows of ints, item by item -/
theorem lex_ints {Q : Bool → Shared → Prop} : ∀ {vs us : List Value} {ns ms : List Int} (i : Nat), IntsAre vs ns → IntsAre us ms → Q (HT.lexLt ns ms) s → KatLex prog w A true (decide (ns.length < ms.length)) Q (vs.zip us) i s
  | [], [], [], [], _, _, _, q => kat_nil (by simpa [HT.lexLt] using q)
  | [], _ :: _, [], _ :: _, _, _, _, q => kat_nil (by simpa [HT.lexLt] using q)
  | _ :: _, [], _ :: _, [], _, _, _, q => kat_nil (by simpa [HT.lexLt] using q)
  | _ :: vs, _ :: us, n :: ns, m :: ms, i, .cons _ t hv, .cons _ t' hu, q => by
    rw [HT.lexLt_cons] at q
    refine kat_cons (wpAny_eqBool_int (kat_go (fun e => ?_) fun e => ?_))
    · have e' : n = m := by simpa using e
      rw [if_pos e'] at q
      refine kat_yes ?_
      show KatLex prog w A true _ Q (vs.zip us) (i + 1) s
      have h := lex_ints (i + 1) hv hu q
      rw [show decide ((n :: ns).length < (m :: ms).length) = decide (ns.length < ms.length) by simp]
      exact h
    · have e' : ¬ n = m := by simpa using e
      rw [if_neg e'] at q
      refine kat_no ?_
      cases i with
      | zero => exact oneLt_int q
      | succ i => exact kat_one _ _ (PyProof.Rows.lt_int q)
/-- list.sort of fewer than 64 things: what the questions find decides -/
theorem sort_any {a : Addr} {vs : List Value} {n : Nat} {R : PySem.Fin → Shared → Prop} {Good : Array Nat → Prop} (ho : s.heap.get? a = some (seqObj "list" vs.toArray n)) (h64 : vs.length < 64)
    (ask : 2 ≤ vs.length → ∀ s' : Shared, (∀ b o, b ≠ a → s.heap.get? b = some o → s'.heap.get? b = some o) →
      wpAny (model prog w) A (keyKind' vs.toArray) (fun κ s1 => s1 = s' ∧ (kas_sort vs.length).kasWp (kas_ask prog w A κ vs) (fun p s2 => s2 = s' ∧ Good p) s') (fun _ _ => False) s')
    (one : vs.length < 2 → R (.done (.ret .none)) { s with heap := sortedHeap s.heap a vs vs.toArray })
    (more : ∀ p : Array Nat, p.size = vs.length → Good p → R (.done (.ret .none)) { s with heap := sortedHeap s.heap a vs (List.toArray (p.toList.map fun i => vs.getD i Value.none)) }) :
    wpAny (model prog w) A (Builtin.«list.sort» ⟨[.ref a], []⟩) R E s := by
  have big : (64 : Nat) ≤ sizeLine := by decide
  obtain ⟨e1, ho1⟩ : ∃ e1, (s.heap.update a (Obj.mapSeq fun _ => #[])).get? a = some (seqObj "list" #[] e1) := ⟨_, get?_update_seq ho (fun _ => #[])⟩
  have la : a < (s.heap.update a (Obj.mapSeq fun _ => (#[] : Array Value))).objs.size := Heap.lt_size ho1
  have ho6 := Heap.get?_push_of_some (seqObj "list" #[] 0) (Heap.get?_push_of_some (seqObj "tuple" vs.toArray 0) ho1)
  have old : ∀ b o, b ≠ a → s.heap.get? b = some o → (((s.heap.update a (Obj.mapSeq fun _ => #[])).push (seqObj "tuple" vs.toArray 0)).push (seqObj "list" #[] 0)).get? b = some o := fun b o hb e =>
    Heap.get?_push_of_some _ (Heap.get?_push_of_some _ ((Heap.get?_update_ne _ _ _ _ hb).trans e))
  rw [list_sort_plain]
  refine wpAny_bind (listItems_at ho rfl (wpAny_bind (listUpdate_at ho rfl (wpAny_bind (seqEpoch_at ho1 rfl (wpAny_bind (wpAny_newTuple (wpAny_bind (wpAny_newList (wpAny_holding ?_) (Nat.zero_le _))) (by show vs.length ≤ _; omega))))) (by show vs.toArray.size ≤ _; simp; omega) (Nat.zero_le _))))
  by_cases h2 : vs.length < 2
  · have h2' : vs.toArray.size < 2 := by simpa using h2
    have e : ((vs.toArray.zip vs.toArray).map fun x : Value × Value => x.2) = vs.toArray := by
      apply Array.toList_inj.mp
      simp
      exact List.map_snd_zip (Nat.le_refl _)
    dsimp only
    rw [if_pos h2', if_pos h2']
    refine wpAny_bind (wpAny_pure ?_)
    rw [StateT.run_pure]
    refine wpAny_bind (wpAny_pure (wpAny_bind (seqEpoch_at ho6 rfl (wpAny_bind (listUpdate_at ho6 rfl ?_ (Nat.zero_le _) ?_)))))
    · simp only [bne_self_eq_false, Bool.false_eq_true, if_false]
      have q := one h2
      rw [← e] at q
      exact wpAny_pure q
    · show ((vs.toArray.zip vs.toArray).map fun x : Value × Value => x.2).size ≤ _
      rw [e]
      simp
      omega
  · have h2' : ¬ vs.toArray.size < 2 := by simpa using h2
    dsimp only
    rw [if_neg h2', if_neg h2']
    refine wpAny_bind (wpAny_mono (ask (by omega) _ old) (fun κ s1 hk => ?_) fun _ _ z => z.elim)
    obtain ⟨rfl, hk⟩ := hk
    refine wpAny_bind (wpAny_mono (kat_run (ks := vs) (vs := vs) (Q := fun st' s2 => ∃ p : Array Nat, p.size = vs.length ∧ arrOf st' = p.map (kas_item (vs.toArray.zip vs.toArray)) ∧ failedOf st' = none ∧ s2 = _ ∧ Good p) rfl (by omega) h64 (fun p st' s2 a1 a2 a3 a4 => ⟨p, a1, a2, a3, a4⟩) hk) ?_ fun _ _ z => z)
    rintro ⟨⟨⟩, st⟩ s2 ⟨p, hp, har, hf, rfl, good⟩
    have e := kat_snds (ks := vs) (vs := vs) rfl har
    dsimp only
    rw [e]
    refine wpAny_bind (seqEpoch_at ho6 rfl (wpAny_bind (listUpdate_at ho6 rfl ?_ (Nat.zero_le _) ?_)))
    · rw [hf]
      simp only [bne_self_eq_false, Bool.false_eq_true, if_false]
      exact wpAny_pure (more p hp good)
    · rw [List.size_toArray, List.length_map, Array.length_toList, hp]
      omega
/-- sorted(xs) of fewer than 64 things -/
theorem sorted_any {l : Addr} {vs : List Value} {Q : Value → Shared → Prop} {Good : Array Nat → Prop} (hl : s.heap.IsList l vs.toArray) (h64 : vs.length < 64)
    (ask : 2 ≤ vs.length → ∀ s' : Shared, (∀ b o, s.heap.get? b = some o → s'.heap.get? b = some o) →
      wpAny (model prog w) A.in1.in1 (keyKind' vs.toArray) (fun κ s1 => s1 = s' ∧ (kas_sort vs.length).kasWp (kas_ask prog w A.in1.in1 κ vs) (fun p s2 => s2 = s' ∧ Good p) s') (fun _ _ => False) s')
    (one : vs.length < 2 → Q (.ref (s.heap.objs.size + 1)) { s with heap := sortedAll s.heap vs vs.toArray })
    (more : ∀ p : Array Nat, p.size = vs.length → Good p → Q (.ref (s.heap.objs.size + 1)) { s with heap := sortedAll s.heap vs (List.toArray (p.toList.map fun i => vs.getD i Value.none)) }) :
    wpAny (model prog w) A (call (.builtin "sorted") [.ref l]) Q E s := by
  have big : (64 : Nat) ≤ sizeLine := by decide
  have sz : ((s.heap.push (seqObj "list" #[] 0)).update s.heap.objs.size (Obj.mapSeq (· ++ vs.toArray))).objs.size = s.heap.objs.size + 1 := (Heap.size_update ..).trans (size_push' ..)
  have at1 : (((s.heap.push (seqObj "list" #[] 0)).update s.heap.objs.size (Obj.mapSeq (· ++ vs.toArray))).push (seqObj "list" vs.toArray 0)).get? (s.heap.objs.size + 1) = some (seqObj "list" vs.toArray 0) := sz ▸ Heap.get?_push_size _ rfl
  have old : ∀ b o, s.heap.get? b = some o → (((s.heap.push (seqObj "list" #[] 0)).update s.heap.objs.size (Obj.mapSeq (· ++ vs.toArray))).push (seqObj "list" vs.toArray 0)).get? b = some o := fun b o e =>
    Heap.get?_push_of_some _ ((Heap.get?_update_ne _ _ _ _ (Nat.ne_of_lt (Heap.lt_size e))).trans (Heap.get?_push_of_some _ e))
  have body := sort_any (prog := prog) (w := w) (A := A.in1.in1) (E := E) (a := s.heap.objs.size + 1) (Good := Good) (R := fun f s' => f = .done (.ret .none) ∧ Q (.ref (s.heap.objs.size + 1)) s')
    (s := { s with heap := ((s.heap.push (seqObj "list" #[] 0)).update s.heap.objs.size (Obj.mapSeq (· ++ vs.toArray))).push (seqObj "list" vs.toArray 0) }) at1 h64
    (fun h2 s' k => ask h2 s' fun b o e => k b o (Nat.ne_of_lt (Nat.lt_succ_of_lt (Heap.lt_size e))) (old b o e)) (fun h => ⟨rfl, one h⟩) (fun p hp g => ⟨rfl, more p hp g⟩)
  refine Calls.call_function_entry kind_sorted plain_sorted entry_sorted (args_sorted1 _) ?_
  show wpAny (model prog w) A.in1 (do checkCount "sorted" 1 1 _; _) _ _ s
  refine wpAny_bind (m := checkCount "sorted" 1 1 _) (wpAny_pure (wpAny_bind (collect_list hl (wpAny_bind (wpAny_newList ?_ (by omega))) (by omega))))
  show wpAny (model prog w) A.in1 _ _ E { s with heap := ((s.heap.push (seqObj "list" #[] 0)).update s.heap.objs.size (Obj.mapSeq (· ++ vs.toArray))).push (seqObj "list" vs.toArray 0) }
  rw [sz]
  exact wpAny_bind (wpAny_holding (wpAny_call_entry slot_list_sort ⟨_, at1, rfl⟩ entry_list_sort (wpAny_mono body (fun f s' z => ⟨_, z.1, wpAny_pure ⟨_, rfl, z.2⟩⟩) fun _ _ z => z) (args_list_sort _)))
end
theorem lex_asy : ∀ {a b : List Int}, HT.lexLt a b = true → HT.lexLt b a = false
  | [], [], h => by cases h
  | [], _ :: _, _ => rfl
  | _ :: _, [], h => by cases h
  | x :: a, y :: b, h => by
    rw [HT.lexLt_cons] at h ⊢
    by_cases e : x = y
    · rw [if_pos e] at h
      rw [if_pos e.symm]
      exact lex_asy h
    · rw [if_neg e] at h
      rw [if_neg (fun z => e z.symm)]
      have := of_decide_eq_true h
      exact decide_eq_false (by omega)
theorem lex_tot : ∀ {a b : List Int}, a ≠ b → HT.lexLt a b = false → HT.lexLt b a = true
  | [], [], h, _ => absurd rfl h
  | [], _ :: _, _, h => by cases h
  | _ :: _, [], _, _ => rfl
  | x :: a, y :: b, h, h' => by
    rw [HT.lexLt_cons] at h' ⊢
    by_cases e : x = y
    · subst e
      rw [if_pos rfl] at h' ⊢
      exact lex_tot (fun z => h (by rw [z])) h'
    · rw [if_neg e] at h'
      rw [if_neg (fun z => e z.symm)]
      have := of_decide_eq_false h'
      exact decide_eq_true (by omega)
theorem lex_tr : ∀ {a b c : List Int}, HT.lexLt a b = true → HT.lexLt b c = true → HT.lexLt a c = true
  | [], [], _, h, _ => by cases h
  | [], _ :: _, [], _, h => by cases h
  | [], _ :: _, _ :: _, _, _ => rfl
  | _ :: _, [], _, h, _ => by cases h
  | _ :: _, _ :: _, [], _, h => by cases h
  | x :: a, y :: b, z :: c, h, h' => by
    rw [HT.lexLt_cons] at h h' ⊢
    by_cases e : x = y
    · subst e
      rw [if_pos rfl] at h
      by_cases e2 : x = z
      · rw [if_pos e2] at h' ⊢
        exact lex_tr h h'
      · rw [if_neg e2] at h' ⊢
        exact h'
    · rw [if_neg e] at h
      have h1 := of_decide_eq_true h
      by_cases e2 : y = z
      · subst e2
        rw [if_neg e]
        exact h
      · rw [if_neg e2] at h'
        have h2 := of_decide_eq_true h'
        rw [if_neg (by omega)]
        exact decide_eq_true (by omega)
theorem wp_ask {f : Nat → Nat → Bool} {n : Nat} {s : Shared} {cmp : Nat → Nat → (Bool → Shared → Prop) → Shared → Prop} {α : Type} {R : α → Prop} (hc : ∀ i j C, i < n → j < n → C (f i j) s → cmp i j C s) :
    ∀ {t : KasT α}, SortT.Wp f n t R → t.kasWp cmp (fun p s2 => s2 = s ∧ R p) s
  | .ret _, h => ⟨rfl, h⟩
  | .ask i j _, ⟨a, b, _, h⟩ => hc i j _ a b (wp_ask hc h)
theorem range_getD {α : Type} (d : α) (l : List α) : (List.range l.length).map (fun i => l.getD i d) = l := by
  apply List.ext_getElem
  · simp
  · intro i h1 h2
    simp [h2]
section
variable {X : Cx} {pins : List (Addr × Obj)} {σ : St} {H : Hp} {s : Shared}
theorem paired_at {α β : Type} {F : α → β → Prop} {d : α} {e : β} : ∀ {xs : List α} {ys : List β} {i : Nat}, Paired F xs ys → i < xs.length → F (xs.getD i d) (ys.getD i e)
  | _, _, _, .nil, h => absurd h (Nat.not_lt_zero _)
  | _, _, 0, .cons h _, _ => h
  | _, _, i + 1, .cons _ r, h => paired_at (i := i) r (by simpa using h)
theorem paired_pick {α β : Type} {F : α → β → Prop} {d : α} {e : β} {xs : List α} {ys : List β} (h : Paired F xs ys) : ∀ {l : List Nat}, (∀ i ∈ l, i < xs.length) → Paired F (l.map fun i => xs.getD i d) (l.map fun i => ys.getD i e)
  | [], _ => .nil
  | i :: l, q => .cons (paired_at h (q i (by simp))) (paired_pick h fun j hj => q j (by simp [hj]))
/-- a list's items are tuples of ints -/
def TupsAt (K : PySem.W.Frag) (H : Hp) (vs : List V) (ts : List (List Int)) : Prop := Paired (fun v t => ∃ a, v = .ref a ∧ SqT K H a (t.map V.int)) vs ts
theorem fsts : ∀ {h : Heap} {its : List Value} {ts : List (List Int)}, Paired (fun u t => ∃ a xs, u = Value.ref a ∧ IsTup h a xs ∧ IntsAre xs.toList t) its ts → (∀ t ∈ ts, t ≠ []) → ∃ fs, KatTups h its fs ∧ fs.length = its.length ∧ ∀ v ∈ fs, ∃ i k, v = Value.int i k
  | _, _, _, .nil, _ => ⟨[], KatTups.nil, rfl, fun _ z => by cases z⟩
  | h, _, t :: ts, .cons ⟨a, xs, e, ⟨o, ho, hc, n, hd⟩, hi⟩ r, ne => by
    subst e
    obtain ⟨fs, k, l, q⟩ := fsts r fun z hz => ne z (by simp [hz])
    obtain ⟨x, hx⟩ : ∃ x r, xs.toList = x :: r := by
      cases hxs : xs.toList with
      | nil =>
        rw [hxs] at hi
        cases hi
        exact absurd rfl (ne [] (by simp))
      | cons x r => exact ⟨x, r, rfl⟩
    obtain ⟨rr, hx⟩ := hx
    have h0 : xs[0]? = some x := by rw [← Array.getElem?_toList, hx]; rfl
    rw [hx] at hi
    refine ⟨x :: fs, KatTups.cons ho hc hd h0 k, by simp [l], fun v hv => ?_⟩
    rcases List.mem_cons.mp hv with rfl | hv
    · cases hi with
      | cons i k _ => exact ⟨i, k, rfl⟩
    · exact q v hv
theorem paired_two {α β γ : Type} {F : α → β → Prop} {G : α → γ → Prop} {L : β → γ → Prop} (h : ∀ v u t, F v u → G v t → L u t) : ∀ {vs : List α} {us : List β} {ts : List γ}, Paired F vs us → Paired G vs ts → Paired L us ts
  | _, _, _, .nil, .nil => .nil
  | _, _, _, .cons a r, .cons b q => .cons (h _ _ _ a b) (paired_two h r q)
theorem lex_order {ts : List (List Int)} (nd : ts.Nodup) : SortT.Tot (fun i j => HT.lexLt (ts.getD i []) (ts.getD j [])) ts.length where
  tot := fun i j hi hj ne h => lex_tot (fun e => ne (by
    rw [List.getD_eq_getElem?_getD, List.getD_eq_getElem?_getD, List.getElem?_eq_getElem hi, List.getElem?_eq_getElem hj] at e
    exact (List.getElem_inj nd).mp e)) h
  asy := fun _ _ _ _ h => lex_asy h
  tr := fun _ _ _ _ _ _ h1 h2 => lex_tr h1 h2
theorem ints_len : ∀ {vs : List Value} {ns : List Int}, IntsAre vs ns → vs.length = ns.length
  | _, _, .nil => rfl
  | _, _, .cons _ _ r => by rw [List.length_cons, List.length_cons, ints_len r]
/-- sorted(xs), xs a list of unlike tuples of ints, fewer than 64 -/
theorem call_sortedTX : CallR X (.builtin "sorted") (fun xs H Q => ∃ (p : Addr) (vs : List V) (ts : List (List Int)), xs = [.ref p] ∧ SqL X.K H p vs ∧ TupsAt X.K H vs ts ∧ vs.length < 64 ∧ ts.Nodup ∧ (∀ t ∈ ts, t ≠ []) ∧
    ∀ (q : Addr) (vs' : List V) (ts' : List (List Int)) (ix : List Nat), H q = none → ix.Perm (List.range vs.length) → vs' = ix.map (fun i => vs.getD i .non) → ts' = ix.map (fun i => ts.getD i []) → vs'.Perm vs → ts'.Perm ts → TupsAt X.K H vs' ts' → ts'.Pairwise (fun a b => HT.lexLt a b = true) → Q (.ref q) (upd H q (.lst vs'))) := by
  intro pins s σ H xs us Q I r h
  obtain ⟨p, vs, ts, rfl, hq, ht, h64, nd, ne, q⟩ := h
  obtain ⟨u, rfl, rx⟩ := vals1 r
  cases rx
  obtain ⟨its, r', pl, hz⟩ := I.list hq
  have l1 : vs.length = its.length := r'.length
  have l2 : vs.length = ts.length := Paired.length ht
  have hn : H (s.heap.objs.size + 1) = none := I.hok.fresh (Nat.le_succ _)
  have end_ : ∀ (out : List Value) (vs' : List V) (ts' : List (List Int)) (ix : List Nat), ix.Perm (List.range vs.length) → vs' = ix.map (fun i => vs.getD i .non) → ts' = ix.map (fun i => ts.getD i []) → Vals vs' out → vs'.Perm vs → ts'.Perm ts → TupsAt X.K H vs' ts' → ts'.Pairwise (fun a b => HT.lexLt a b = true) →
      EP X pins σ Q (.ref (s.heap.objs.size + 1)) { s with heap := sortedAll s.heap its out.toArray } := fun out vs' ts' ix b1 b2 b3 a1 a2 a3 a4 a5 => by
    obtain ⟨e, he⟩ := sortedAll_at s.heap its out.toArray
    refine ⟨.ref (s.heap.objs.size + 1), _, I.laid (a := s.heap.objs.size + 1) (o := .lst vs') (t' := s.toks) (fun b o z => sortedAll_old z) (Nat.le_succ _) ⟨?_, out, e, a1, he⟩, rfl, q _ vs' ts' ix hn b1 b2 b3 a2 a3 a4 a5⟩
    rw [a2.length_eq]
    exact hz
  have tt : Paired (fun u t => ∃ a xs, u = Value.ref a ∧ IsTup s.heap a xs ∧ IntsAre xs.toList t) its ts := paired_two (fun v u t hv hu => by
    obtain ⟨a, rfl, ha⟩ := hu
    cases hv
    obtain ⟨ys, ry, hy, _⟩ := I.tuple ha
    exact ⟨a, ys.toArray, rfl, hy, intsAre_of ry⟩) r' ht
  refine sorted_any pl.isList (by omega) (Good := fun p => SortT.P its.length p ∧ SortT.Up (fun i j => HT.lexLt (ts.getD i []) (ts.getD j [])) p its.length) (fun h2 s' k => ?_) (fun h => ?_) (fun p hp g => ?_)
  · have tt' : Paired (fun u t => ∃ a xs, u = Value.ref a ∧ IsTup s'.heap a xs ∧ IntsAre xs.toList t) its ts := Paired.mapP tt fun u t ⟨a, xs, e, ⟨o, ho, hr⟩, hi⟩ => ⟨a, xs, e, ⟨o, k a o ho, hr⟩, hi⟩
    obtain ⟨fs, kt, lf, hf⟩ := fsts tt' ne
    refine kat_kind (T := Value.type "int") kt (by omega) (fun v hv => ?_) rfl ⟨rfl, ?_⟩
    · obtain ⟨i, t, rfl⟩ := hf v hv
      exact .now
    have hs := SortT.sort (lex_order nd) (by omega)
    rw [← l2, l1] at hs
    refine wp_ask (fun i j C hi hj c => ?_) hs
    obtain ⟨a, xs, ea, ⟨o, ho, hc, n, hd⟩, ia⟩ := paired_at (d := Value.none) (e := []) tt' hi
    obtain ⟨b, ys, eb, ⟨o', ho', hc', n', hd'⟩, ib⟩ := paired_at (d := Value.none) (e := []) tt' hj
    unfold kas_ask
    rw [ea, eb]
    have q := lex_ints (prog := X.prog) (w := X.w) (A := X.A.in1.in1) 0 ia ib c
    rw [← ints_len ia, ← ints_len ib] at q
    refine kat_lt ho hd ho' hd' ?_
    rw [show (Value.type "int" != Value.type "tuple") = true from rfl]
    simpa using q
  · refine end_ its vs ts (List.range vs.length) (List.Perm.refl _) (range_getD ..).symm (by rw [l2]; exact (range_getD ..).symm) r' (List.Perm.refl _) (List.Perm.refl _) ht ?_
    match ts, l2 with
    | [], _ => exact .nil
    | [_], _ => exact List.pairwise_singleton _ _
    | _ :: _ :: _, e => exact absurd e (by simp; omega)
  · obtain ⟨g1, g2⟩ := g
    have hm : ∀ i ∈ p.toList, i < vs.length := fun i hi => by
      rw [l1]
      exact List.mem_range.mp (g1.mem_iff.mp hi)
    refine end_ _ (p.toList.map fun i => vs.getD i .non) (p.toList.map fun i => ts.getD i []) p.toList (by rw [l1]; exact g1) rfl rfl (paired_pick r' hm) ?_ ?_ (paired_pick ht hm) ?_
    · refine (g1.map _).trans ?_
      rw [← l1, range_getD]
    · refine (g1.map _).trans ?_
      rw [← l1, l2, range_getD]
    · rw [List.pairwise_map, List.pairwise_iff_getElem]
      intro i j hi hj ij
      have hj' : j < its.length := by rw [Array.length_toList, hp] at hj; exact hj
      have := g2 i j ij hj'
      rw [SortT.getD_eq (by rw [hp]; omega), SortT.getD_eq (by rw [hp]; omega)] at this
      simpa using this
theorem call_sortedT : CallR X (.builtin "sorted") (fun xs H Q => ∃ (p : Addr) (vs : List V) (ts : List (List Int)), xs = [.ref p] ∧ SqL X.K H p vs ∧ TupsAt X.K H vs ts ∧ vs.length < 64 ∧ ts.Nodup ∧ (∀ t ∈ ts, t ≠ []) ∧
    ∀ (q : Addr) (vs' : List V) (ts' : List (List Int)), H q = none → vs'.Perm vs → ts'.Perm ts → TupsAt X.K H vs' ts' → ts'.Pairwise (fun a b => HT.lexLt a b = true) → Q (.ref q) (upd H q (.lst vs'))) := by
  intro pins s σ H xs us Q I r h
  obtain ⟨p, vs, ts, e, h1, h2, h3, h4, h5, q⟩ := h
  exact call_sortedTX pins s σ H xs us Q I r ⟨p, vs, ts, e, h1, h2, h3, h4, h5, fun q' vs' ts' ix a _ _ _ b c d f => q q' vs' ts' a b c d f⟩
end
end L2
/-! OWN RULES: a tuple of ints in a list of such -/
namespace L2
open PySem PySem.Spec PyProof.Rows
section
variable {X : Cx} {pins : List (Addr × Obj)} {σ : St} {H : Hp} {s : Shared}
end
section
variable {X : Cx}
end
end L2
/-! OWN RULES: a list comprehension whose element calls a def from which exceptions may leave (no names of the def around are used in it) -/
namespace L2
open PySem PySem.Spec PyProof.Rows
section
variable {X : Cx} {pins : List (Addr × Obj)} {σ : St} {H H' : Hp} {s s' : Shared} {ea : Addr} {cls : Value}
end
section
variable {X : Cx} {scope : Scope} {N' : List Str} {ix : List (Option Nat)} {C : Addr} {fp : List Addr} {s₂ : Shared} {H₂ : Hp} {pins : List (Addr × Obj)} {σ : St}
end
section
variable {prog : Program} {w : World} {A : Around} {R : Result → Shared → Prop} {s : Shared}
end
section
variable {X : Cx} {scope : Scope} {N' : List Str} {ix : List (Option Nat)}
variable {tg iter elt : Expr} {ifs : List Expr} {pos : Pos} {wi : TI} {g : TG} {ti : TT} {te : TE} {W : Value → Hp → Prop}
end
end L2
/-! OWN RULES: {k: v for tg in iter if ..}; the dict that is made is tracked from the start -/
namespace L2
open PySem PySem.Spec PyProof.Rows
section
variable {X : Cx} {pins : List (Addr × Obj)} {σ : St} {H : Hp} {s : Shared} {a : Addr} {y v : V} {u r : Value} {A : Around} {E : Value → Shared → Prop}
end
section
variable {prog : Program} {w : World} {A : Around} {R : Result → Shared → Prop} {s : Shared}
end
section
variable {X : Cx} {scope : Scope} {N' : List Str} {ix : List (Option Nat)} {C : Addr} {fp : List Addr} {s₂ : Shared} {H₂ : Hp} {pins : List (Addr × Obj)} {σ : St}
end
section
variable {X : Cx}
variable {scope : Scope} {N' : List Str} {ix : List (Option Nat)} {tg iter kx vx : Expr} {ifs : List Expr} {pos : Pos} {wi : TI} {g : TG} {ti : TT} {tk tv : TE}
end
/-! ### the forms one uses -/
end L2
/-! OWN RULES: enumerate(xs) walked into a tuple of names -/
namespace L2
open PySem PySem.Spec PyProof.Rows
section
variable {X : Cx} {pins : List (Addr × Obj)} {σ : St} {H : Hp} {s : Shared} {h' : Heap}
/-- records of ours have turned, and something new is laid -/
theorem Inv.turnedNew {t' : Nat} {ch : List Addr} {p : Addr} {o' : HO} (I : Inv X pins σ H s) (hch : ∀ b ∈ ch, FpOk X pins H b) (k : ∀ b o, b ∉ ch → s.heap.get? b = some o → h'.get? b = some o) (hp : s.heap.objs.size ≤ p) (new : ObjOk X.prog X.w (upd H p o') h' p o') :
    Inv X pins σ (upd H p o') { s with heap := h', toks := t' } := by
  have neT : ∀ {b : Addr} {u : HO}, H b = some u → b ≠ p := fun {b u} e => Nat.ne_of_lt (Nat.lt_of_lt_of_le (I.hok.lt e) hp)
  have neC : ∀ {b : Addr} {u : HO}, H b = some u → b ∉ ch := fun {b u} e z => by rw [(hch b z).1] at e; cases e
  refine I.step (g' := s.gens) (d' := s.drawn) (ch := ch) (fun b hb => ?_) (fun b o _ _ hc e _ => k b o hc e) (fun b o _ _ hc e _ => ⟨o.slots, k b o hc e⟩) (fun b o _ e n => ?_) (fun b o hc e => ⟨o, k b o hc e⟩)
    (fun b xs e => by rw [upd_ne (neT e)]; exact e) (fun b o u e => by rw [upd_ne (neT e)]; exact e) (fun b ps e => ⟨#[], by rw [upd_ne (neT e), e]; simp⟩) (fun m hm => ?_) (fun b u e => ?_) I.bare
  · obtain ⟨_, f1, _, f3, f4, f5⟩ := hch b hb
    exact ⟨f3, f1, f4, f5⟩
  · rw [upd_ne (Nat.ne_of_lt (Nat.lt_of_lt_of_le (Heap.lt_size e) hp))]
    exact n
  · obtain ⟨o, es, ep, ho, r⟩ := hm
    exact ⟨o, es, ep, k _ o (fun z => (hch _ z).2.1 rfl) ho, r⟩
  · by_cases hb : b = p
    · subst hb
      rw [upd_same] at e
      cases e
      exact new
    · rw [upd_ne hb] at e
      refine (I.hok b u e).stay (fun c v hc q => k c v ?_ q) (fun c q => by rw [upd_ne (neT q)]; exact q) fun c xs q => by rw [upd_ne (neT q)]; exact q
      rcases hc with z | z
      · rw [z]; exact neC e
      · exact neC z
end
end L2
/-! OWN RULES: min of a list, by comparisons of what stands there; sorted of ints; len and a walk of dicts of tuples -/
namespace L2
open PySem PySem.Spec PyProof.Rows
abbrev lst0 (its : Array Value) (c : Nat) : Obj := { cls := .type "list", dict := none, data := .seq its c, slots := #[] }
/-- min's loop: j items are taken, the best of them stands at S -/
structure MinSt (s : Shared) (l it S : Addr) (vs : List Value) (bt : Nat → Nat → Bool) (j : Nat) (s' : Shared) : Prop where
  same : s' = { s with heap := s'.heap, toks := s'.toks }
  it : s'.heap.IsListIter it l j
  old : ∀ b o, s.heap.get? b = some o → s'.heap.get? b = some o
  le : j ≤ vs.length
  best : (j = 0 ∧ ∃ c, s'.heap.get? S = some (lst0 #[] c)) ∨ ∃ k v c, j = k + 1 ∧ vs[argBest bt k]? = some v ∧ s'.heap.get? S = some (lst0 #[v, v] c)
section
variable {prog : Program} {w : World} {A : Around} {s : Shared} {l it S : Addr} {vs : List Value} {bt : Nat → Nat → Bool} {R : Result → Shared → Prop}
theorem den_builtin {id : String} {args : Args} {b : Builtin} (hb : entryFor table id = some b) : (model prog w).den (.builtin id args) = b args := by
  show (match entryFor table id with | some b => b args | none => unsupported ((withoutEnding? id "#data").getD id)) = _
  rw [hb]
end
section
variable {prog : Program} {w : World} {A : Around} {s : Shared} {l : Addr} {vs : List Value} {bt : Nat → Nat → Bool} {E : Value → Shared → Prop}
end
theorem vals_ofInts : ∀ {vs : List Value} {ns : List Int}, IntsAre vs ns → Vals (ns.map V.int) vs
  | _, _, .nil => .nil
  | _, _, .cons n t r => .cons ⟨t, rfl⟩ (vals_ofInts r)
section
variable {X : Cx}
/-- sorted(xs), xs a list of ints, fewer than 64 -/
theorem call_sortedI : CallR X (.builtin "sorted") (fun xs H Q => ∃ (p : Addr) (ns : List Int), xs = [.ref p] ∧ SqL X.K H p (ns.map V.int) ∧ ns.length < 64 ∧ ∀ (q : Addr) (ns' : List Int), H q = none → ns'.Perm ns → ns'.Pairwise (· ≤ ·) → Q (.ref q) (upd H q (.lst (ns'.map V.int)))) := by
  intro pins s σ H xs us Q I r h
  obtain ⟨p, ns, rfl, hq, h64, q⟩ := h
  obtain ⟨u, rfl, rx⟩ := vals1 r
  cases rx
  obtain ⟨its, r', pl, hz⟩ := I.list hq
  have hlen : ns.length = its.length := by have := r'.length; rw [List.length_map] at this; exact this
  refine sorted_ints pl.isList (intsAre_of r') (by omega) fun out ns' a1 a2 a3 => ?_
  obtain ⟨e, he⟩ := sortedAll_at s.heap its out
  have hn : H (s.heap.objs.size + 1) = none := I.hok.fresh (Nat.le_succ _)
  refine ⟨.ref (s.heap.objs.size + 1), _, I.laid (a := s.heap.objs.size + 1) (o := .lst (ns'.map V.int)) (t' := s.toks) (fun b o z => sortedAll_old z) (Nat.le_succ _) ⟨?_, out.toList, e, vals_ofInts a1, he⟩, rfl, q _ ns' hn a2 a3⟩
  rw [List.length_map, a2.length_eq]
  exact Nat.le_trans (Nat.le_of_lt h64) (by rw [sizeLine_eq]; omega)
end
end L2
/-! OWN RULES: within a comprehension's block, with the text's fragment said outright -/
namespace L2
open PySem PySem.Spec PyProof.Rows
section
variable {X : Cx} {K : PySem.W.Frag}
theorem pg_tupK {es : List Expr} {k : Nat} {pos : Pos} {t : TGs} (hK : X.K = K) (hc : X.calm = true) (n : Nat) (h : PGs X es t) (hn : (assignEach es X.env).length = n) (hst : (assignEach es X.env).findIdx? (·.1) = none) : PG X (.Tuple es k pos) (gTup K n t) := by
  subst hK
  exact pg_tup hc h hn hst
theorem pe_fldK {e : Expr} {f : Str} {pos : Pos} {ta : TE} (hK : X.K = K) (he : PE X e ta) (hb : attributeBase e f X.env (eval e X.env) = eval e X.env) : PE X (.Attribute e f pos) (tFld K ta f) := by
  subst hK
  exact pe_fld he hb
theorem ix_tupK (hK : X.K = K) : IxR X (rIxT K) := by
  subst hK
  exact ix_tup
end
end L2
/-! OWN RULES: d.setdefault(k, x) of a dict whose keys are tuples; xs.insert(i, x) -/
namespace PySem
section
variable {prog : Program} {w : World} {K : Type} [DecidableEq K] {knd : HeapKind prog w K} {A : Around} {E : Value → Shared → Prop} {s : Shared}
/-- one more entry of a key that was not there -/
theorem pushH {h : Heap} {d a : Addr} {xs : List (K × Addr × Value)} {k : K} {v : Value} {o : Obj} {es : Array DictEntry} {ep : Nat} (ho : h.get? d = some o) (hc : o.ExactDict) (hd : o.data = .dict es ep) (he : es.toList = xs.map (entryOfKey knd))
    (his : ∀ x ∈ xs, knd.is h x.1 x.2.1) (hn : (xs.map (·.1)).Nodup) (hkey : knd.is h k a) (hnot : k ∉ xs.map (·.1)) :
    (h.update d (Obj.mapDictKeys (·.push ⟨knd.hash k, .ref a, v⟩))).DictOfH knd d (xs ++ [(k, a, v)]) := by
  refine ⟨_, _, ep + 1, Heap.get?_update_self _ ho (Obj.isFreed_of_dict (Obj.data_mapDictKeys hd _)), hc.mapDictKeys _, Obj.data_mapDictKeys hd _, by simp [he, entryOfKey], fun x hx => ?_, ?_⟩
  · have old : knd.is h x.1 x.2.1 := (List.mem_append.mp hx).elim (his x) fun z => by
      rw [List.mem_singleton.mp z]
      exact hkey
    exact knd.keeps old ho hd (Heap.SameBut.update ..)
  · have p : ((xs ++ [(k, a, v)]).map (·.1)).Perm (k :: xs.map (·.1)) := by
      rw [List.map_append]
      exact List.perm_append_comm
    exact p.nodup_iff.mpr (List.nodup_cons.mpr ⟨hnot, hn⟩)
theorem setDefH {d a : Addr} {xs : List (K × Addr × Value)} {k : K} {dflt : Value} {Q : Value → Shared → Prop} (hu : knd.room A) (hkey : knd.is s.heap k a) (hm : s.heap.DictOfH knd d xs) (hsz : xs.length ≤ sizeLine)
    (h1 : ∀ p, atKey xs k = some p → Q p.2 { s with toks := s.toks + knd.draws k })
    (h2 : atKey xs k = none → ∀ h', h'.DictOfH knd d (xs ++ [(k, a, dflt)]) → Heap.SameBut d s.heap h' → Q dflt { s with heap := h', toks := s.toks + knd.draws k }) :
    wpAny (model prog w) A (dictSetDefault d (.ref a) dflt) Q E s := by
  obtain ⟨o, es, ep, ho, hc, hd, he, his, hn⟩ := hm
  have sz : es.size = xs.length := by
    have := congrArg List.length he
    simpa using this
  unfold dictSetDefault
  refine wpAny_holding (wpAny_bind (knd.pyHash hu hkey (wpAny_bind (wpAny_dictFind_heap (s := { s with toks := s.toks + knd.draws k }) hu hkey ho hd he his hn (fun hno => ?_) (fun j p hj => ?_)))))
  · refine wpAny_bind (wpAny_rule (wpAny_bind (wpAny_updateDictKeys (hz := by omega) (s := { s with toks := s.toks + knd.draws k }) ho hd (wpAny_pure (h2 (atKey_none_of_get hno) _ (pushH ho hc hd he his hn hkey (not_mem_keys_of_get hno)) (Heap.SameBut.update ..))))))
  · refine wpAny_bind (wpAny_dictEntries (s := { s with toks := s.toks + knd.draws k }) ho hd ?_)
    rw [entry_at he j, hj]
    exact wpAny_bind (wpAny_rule (wpAny_pure (h1 _ (atKey_of_get hn hj))))
theorem meetsH_setdefault (knd : HeapKind prog w K) (d a : Addr) (hd : (d == sysModules) = false) (dflt : Value) :
    MeetsIn prog w (Builtin.«dict.setdefault» ⟨[.ref d, .ref a, dflt], []⟩) (fun A R s => knd.room A.in1 ∧ ∃ k xs, knd.is s.heap k a ∧ s.heap.DictOfH knd d xs ∧ xs.length ≤ sizeLine ∧
      (∀ p, atKey xs k = some p → R (.ok (.ret p.2)) { s with toks := s.toks + knd.draws k }) ∧
      (atKey xs k = none → ∀ h', h'.DictOfH knd d (xs ++ [(k, a, dflt)]) → Heap.SameBut d s.heap h' → R (.ok (.ret dflt)) { s with heap := h', toks := s.toks + knd.draws k })) :=
  .of_wp fun A R s ⟨hu, k, xs, hkey, hm, hz, h1, h2⟩ => by
    have run := setDefH (prog := prog) (w := w) (E := fun e s' => R (.error e) s') (Q := fun v s' => R (.ok (.ret v)) s') hu hkey hm hz h1 h2
    unfold Builtin.«dict.setdefault» Builtin.Dict.keyAndDefault
    refine wpAny_bind (wpAny_bind (wpAny_notOrdered_dict hm.typeIs ?_))
    show wpAny _ _ (pure (d, Value.ref a, some dflt)) _ _ s
    refine wpAny_pure ?_
    show wpAny _ _ (if (d == sysModules) = true then _ else (dictSetDefault d (.ref a) dflt >>= _)) _ _ s
    rw [if_neg (by rw [hd]; exact Bool.false_ne_true)]
    exact wpAny_bind (wpAny_mono run (fun v s' q => wpAny_pure ⟨v, rfl, q⟩) fun _ _ z => z)
end
end PySem
namespace L2
open PySem PySem.Spec PyProof.Rows
def tDSetDef (td ty tx : TE) : TE := fun σ H Q => td σ H fun x H1 => ∃ a, x = .ref a ∧ IsD H1 a ∧ ty σ H1 fun y H2 => tx σ H2 fun z H3 => ∃ kvs k b, H3 a = some (.dT kvs) ∧ y = .ref b ∧ H3 b = some (.tup (k.map kV)) ∧ kvs.length < sizeLine ∧
  (∀ v, valV kvs k = some v → Q v H3) ∧ (valV kvs k = none → Q z (upd H3 a (.dT (putK kvs k z))))
section
variable {X : Cx} {o e f : Expr} {apos cpos : Pos} {td ty tx : TE}
theorem pe_dsetdef (hu : X.A.units + 1 < cLine) (ho : PE X o td) (he : PE X e ty) (hf : PE X f tx) (m : M2 X o "setdefault" apos e f cpos) : PE X (.Call (.Attribute o "setdefault" apos) [e, f] [] cpos) (tDSetDef td ty tx) := by
  intro pins s σ H Q I h
  refine wpAny_Call_method m.base m.few m.line PySem.F.plainAttrs_dict PySem.F.slot_dict_setdefault PySem.F.type_dict_setdefault (thn (ho pins s σ H _ I h) fun u s1 ⟨x, H1, I1, rx, a, ex, d, q1⟩ => ?_)
  subst ex
  obtain rfl : u = Value.ref a := rx
  obtain ⟨t1, t2, _⟩ := isD_at I1 d
  refine ⟨t1, t2, ?_⟩
  rw [m.trees]
  refine Calls.callWith_builtin rfl (Calls.evalArgs_plain (Calls.spliced_cons (thn (he pins s1 σ H1 _ I1 q1) fun iv s2 ⟨y, H2, I2, ry, q2⟩ =>
    Calls.spliced_cons (thn (hf pins s2 σ H2 _ I2 q2) fun fv s3 ⟨z, H3, I3, rz, kvs, k, b, ea, ey, eb, hl, g1, g2⟩ => Calls.spliced_nil ?_))))
  subst ey
  cases (show iv = Value.ref b from ry)
  obtain ⟨hz, hd, xs, rel, dd⟩ := dt_of I3.hok ea
  have hz' : xs.length ≤ sizeLine := by rw [← Paired.length rel]; exact hz
  refine call_meetsIn PySem.F.slot_dict_setdefault dd.typeIs PySem.F.entry_dict_setdefault (PySem.F.args_dict_setdefault_3 _ _ _) (meetsH_setdefault (tupleKind (mixKind X.prog X.w)) a b hd fv) ⟨tupleKind_room_in1 hu, k, xs, key_of I3.hok eb, dd, hz', fun p hp => ?_, fun hn h' dd' hs => ?_⟩
  · have rv := rel.val k
    rw [hp] at rv
    cases hv : valV kvs k with
    | none =>
      rw [hv] at rv
      cases rv
    | some v =>
      rw [hv] at rv
      exact ⟨v, H3, I3.tok _, rv, g1 v hv⟩
  · have rv := rel.val k
    rw [hn] at rv
    have hv : valV kvs k = none := by
      cases hv : valV kvs k with
      | none => rfl
      | some v =>
        rw [hv] at rv
        cases rv
    have hl2 : (putK kvs k z).length ≤ sizeLine := by have := length_putK kvs k z; omega
    have rel' := rel.put k eb rz
    rw [storedH_new hn] at rel'
    obtain ⟨q, es, ep, hq, h2, h3, h4, _, h5⟩ := dd'
    refine ⟨z, _, d_write (ob := .dT (putK kvs k z)) I3 (by rw [ea]; exact True.intro) hs ⟨q, hq⟩ ⟨hl2, hd, _, rel'.keeps fun c ys ec => ?_, q, es, ep, hq, h2, h3, h4, h5⟩, rz, g2 hv⟩
    rw [upd_ne (ne_of ec ea (fun z => nomatch z))]
    exact ec
end
end L2
/-! OWN RULES: the keys of a dict of tuples walked -/
namespace PySem
section
variable {prog : Program} {w : World} {A : Around} {E : Value → Shared → Prop} {s : Shared}
/-- the next key, whatever the keys are -/
theorem next_key {it d : Addr} {i ep : Nat} {es : Array DictEntry} {od : Obj} {Q : Option Value → Shared → Prop} (hit : s.heap.IsKeyIter it d i es.size ep) (hod : s.heap.get? d = some od) (hdd : od.data = .dict es ep) (hlt : i < es.size)
    (hQ : ∀ h', h'.IsKeyIter it d (i + 1) es.size ep → Heap.SameBut it s.heap h' → Q (some es[i].key) { s with heap := h' }) : wpAny (model prog w) A (pyNext (.ref it)) Q E s := by
  obtain ⟨o, ho, hc, hd⟩ := id hit
  have hT := hit.typeIs
  unfold pyNext
  refine wpAny_bind (wpAny_attempt ?_)
  refine wpAny_callSpecial?_slot hT F.slot_dict_keyiterator_next ?_
  refine wpAny_call_entry F.slot_dict_keyiterator_next hT F.entry_dict_keyiterator_next ?_ (F.args_dict_keyiterator_next_1 _)
  unfold Builtin.«dict_keyiterator.__next__»
  wp_walk using wpAny_typeNameOfWhole_keyiter hT, wpAny_fieldsOf ho hd, wpAny_dictEntries hod hdd, wpAny_dictEpoch hod hdd, wpAny_isOneOf_keyiter hT
  rw [if_neg (show ¬ (i : Int) < 0 by omega), Int.toNat_natCast, Array.getElem?_eq_getElem hlt]
  have hown : Builtin.Dict_items.ownsTuple "dict_keyiterator" = false := by decide
  have hit' : (s.heap.update it (Obj.mapFields (·.setIfInBounds 1 (rawInt ((i : Int) + 1))))).IsKeyIter it d (i + 1) es.size ep :=
    ⟨_, Heap.get?_update_self _ ho (Obj.isFreed_of_fields (Obj.data_mapFields hd _)), (Obj.cls_mapFields ..).trans hc, by rw [Obj.data_mapFields hd]; simp [rawInt]⟩
  refine wpAny_bind ?_
  wp_walk using wpAny_typeNameOfWhole_keyiter hT
  rw [hd]
  show wpAny _ _ (update it (Obj.mapFields (·.setIfInBounds 1 (rawInt ((i : Int) + 1))))) _ _ s
  refine wpAny_update ho (wpAny_bind (wpAny_holding ?_))
  wp_walk using wpAny_isOneOf_keyiter (s := { s with heap := s.heap.update it (Obj.mapFields (·.setIfInBounds 1 (rawInt ((i : Int) + 1)))) }) hit'.typeIs
  exact ⟨_, rfl, wpAny_pure (hQ _ hit' (Heap.SameBut.update ..))⟩
/-- .. and none behind the last -/
theorem next_key_end {it d : Addr} {i ep : Nat} {es : Array DictEntry} {od : Obj} {Q : Option Value → Shared → Prop} (hh : A.handled = none) (hit : s.heap.IsKeyIter it d i es.size ep) (hod : s.heap.get? d = some od) (hdd : od.data = .dict es ep) (hge : es.size ≤ i)
    (hQ : ∀ h', Heap.ExtBut it s.heap h' → Q none { s with heap := h' }) : wpAny (model prog w) A (pyNext (.ref it)) Q E s := by
  obtain ⟨o, ho, hc, hd⟩ := id hit
  have hT := hit.typeIs
  unfold pyNext
  refine wpAny_bind (wpAny_attempt ?_)
  refine wpAny_callSpecial?_slot hT F.slot_dict_keyiterator_next ?_
  refine wpAny_call_entry F.slot_dict_keyiterator_next hT F.entry_dict_keyiterator_next ?_ (F.args_dict_keyiterator_next_1 _)
  unfold Builtin.«dict_keyiterator.__next__»
  wp_walk using wpAny_typeNameOfWhole_keyiter hT, wpAny_fieldsOf ho hd, wpAny_dictEntries hod hdd, wpAny_dictEpoch hod hdd, wpAny_isOneOf_keyiter hT
  rw [if_neg (show ¬ (i : Int) < 0 by omega), Int.toNat_natCast, Array.getElem?_eq_none hge]
  wp_walk using wpAny_typeNameOfWhole_keyiter hT
  rw [hd]
  show wpAny _ _ (update it (Obj.mapFields (·.setIfInBounds 0 .none))) _ _ s
  refine wpAny_update ho ?_
  unfold newExc raiseNew newTuple firstArgMember
  wp_walk using wpAny_newObj_type
  all_goals first
    | (show wpAny _ _ (isSubtype (.type "StopIteration") (.type "StopIteration")) _ _ _
       rw [isSubtype_stop]
       exact wpAny_pure (wpAny_pure (hQ _ (((Heap.SameBut.update ..).extBut.push _).push _))))
    | (unfold autoParam; size_fits)
    | size_fits
/-- the walk over a dict begun -/
theorem iter_key {d : Addr} {es : Array DictEntry} {ep : Nat} {od : Obj} {Q : Value → Shared → Prop} (hd : (d == sysModules) = false) (hod : s.heap.get? d = some od) (hx : od.ExactDict) (hdd : od.data = .dict es ep)
    (hQ : Q (.ref s.heap.objs.size) { s with heap := s.heap.push { cls := .type "dict_keyiterator", data := .fields #[.ref d, .int 0 0, .int es.size 0, .int ep 0] } }) : wpAny (model prog w) A (pyIter (.ref d)) Q E s := by
  have hT : s.TypeIs (.ref d) "dict" := ⟨od, hod, hx.1⟩
  have run : wpAny (model prog w) A.in1 (Builtin.«dict.__iter__» ⟨[.ref d], []⟩) (fun fin s' => fin = .done (.ret (.ref s.heap.objs.size)) ∧ s' = { s with heap := s.heap.push { cls := .type "dict_keyiterator", data := .fields #[.ref d, .int 0 0, .int es.size 0, .int ep 0] } }) E s := by
    unfold Builtin.«dict.__iter__» Builtin.Dict.dictSlotNone Builtin.Dict.showsAll
    wp_walk using wpAny_notOrdered_dict hT, wpAny_dictEntries hod hdd, wpAny_dictEpoch hod hdd
    exact ⟨rfl, rfl⟩
  refine wpAny_pyIter_slot hT F.slot_dict_iter (wpAny_call_entry F.slot_dict_iter hT F.entry_dict_iter (wpAny_mono run (fun f s' z => ?_) fun _ _ z => z) (F.args_dict_iter_1 _))
  obtain ⟨rfl, rfl⟩ := z
  exact ⟨_, rfl, "dict_keyiterator", _, ⟨_, Heap.get?_push_size _ rfl, rfl⟩, F.slot_dict_keyiterator_next.lookup, hQ⟩
/-- the walk over a dict's items begun -/
theorem iter_item {v d : Addr} {es : Array DictEntry} {ep : Nat} {od : Obj} {Q : Value → Shared → Prop} (hv : s.heap.IsItemsView v d) (hod : s.heap.get? d = some od) (hdd : od.data = .dict es ep)
    (hQ : Q (.ref s.heap.objs.size) { s with heap := s.heap.push { cls := .type "dict_itemiterator", data := .fields #[.none, .bool false, .ref d, .int 0 0, .int es.size 0, .int ep 0, .none, .none] } }) : wpAny (model prog w) A (pyIter (.ref v)) Q E s := by
  obtain ⟨ov, hov, hcv, hdv⟩ := id hv
  have hT := hv.typeIs
  have run : wpAny (model prog w) A.in1 (Builtin.«dict_items.__iter__» ⟨[.ref v], []⟩) (fun fin s' => fin = .done (.ret (.ref s.heap.objs.size)) ∧ s' = { s with heap := s.heap.push { cls := .type "dict_itemiterator", data := .fields #[.none, .bool false, .ref d, .int 0 0, .int es.size 0, .int ep 0, .none, .none] } }) E s := by
    unfold Builtin.«dict_items.__iter__» Builtin.Dict_items.dictOf Builtin.Dict_items.newIterator
    wp_walk using wpAny_field hov hdv (x := .ref d) rfl, wpAny_dictEntries hod hdd, wpAny_dictEpoch hod hdd
    exact ⟨rfl, by simp [rawInt, Builtin.Dict_items.ownedTupleFields, show Builtin.Dict_items.ownsTuple "dict_itemiterator" = true by decide]⟩
  refine wpAny_pyIter_slot hT F.slot_dict_items_iter (wpAny_call_entry F.slot_dict_items_iter hT F.entry_dict_items_iter (wpAny_mono run (fun f s' z => ?_) fun _ _ z => z) (F.args_dict_items_iter_1 _))
  obtain ⟨rfl, rfl⟩ := z
  exact ⟨_, rfl, "dict_itemiterator", _, ⟨_, Heap.get?_push_size _ rfl, rfl⟩, F.slot_dict_itemiterator_next.lookup, hQ⟩
end
end PySem
namespace L2
open PySem PySem.Spec PyProof.Rows
/-- the keys of a dict of tuples that is held fast -/
def ItdT (a : Addr) (o : Obj) (kvs : List (List Key × V)) : It where
  go := fun i H => i < kvs.length ∧ H a = some (.frz o (.dT kvs))
  yld := fun i H x H' => H' = H ∧ ∃ kv b, kvs[i]? = some kv ∧ x = .ref b ∧ H b = some (.tup (kv.1.map kV))
  stop := fun i H => kvs.length ≤ i ∧ H a = some (.frz o (.dT kvs))
theorem paired_get {α β : Type} {F : α → β → Prop} : ∀ {xs : List α} {ys : List β} {i : Nat} {x : α}, Paired F xs ys → xs[i]? = some x → ∃ y, ys[i]? = some y ∧ F x y
  | _, _, _, _, .nil, e => by simp at e
  | _, _, 0, _, .cons h _, e => by
    cases Option.some.inj e
    exact ⟨_, rfl, h⟩
  | _, _, i + 1, _, .cons _ r, e => paired_get (i := i) r e
theorem turn_dT {P : Program} {w : World} {K : PySem.W.Frag} {tg : Expr} (a it : Addr) (o : Obj) (kvs : List (List Key × V)) (es : Array DictEntry) (ep : Nat) (hd : o.data = .dict es ep) : Turn P w K tg (ItdT a o kvs) [it] it (fun i h => h.IsKeyIter it a i kvs.length ep) where
  mem := by simp
  obj := fun i h st b hb => by
    have e : b = it := by simpa using hb
    subst e
    obtain ⟨o, e, c, d⟩ := st
    exact ⟨o, e, fun v z => by rw [d] at z; cases z⟩
  keep := fun i h h' st k => st.at fun o e => k it (by simp) o e
  item := by
    intro X hP hw hK hc i pins s σ H E I hf st hg
    subst hP hw hK
    obtain ⟨hi, hq⟩ := hg
    obtain ⟨ho, hz, hs, xs, r, o', es', ep', ho', hx', hd', he, nd⟩ := I.hok a _ hq
    cases Option.some.inj (ho'.symm.trans ho)
    rw [hd] at hd'
    cases hd'
    have hsz : es.size = kvs.length := by
      have e1 := congrArg List.length he
      rw [List.length_map, ← Paired.length r] at e1
      simpa using e1
    obtain ⟨kv, ekv⟩ : ∃ kv, kvs[i]? = some kv := ⟨kvs[i], by simp [hi]⟩
    obtain ⟨x, ex, e1, e2, e3⟩ := paired_get r ekv
    have hlt : i < es.size := by omega
    have hkey : es[i].key = .ref x.2.1 := by
      have h1 : es.toList[i]? = some es[i] := by simp [hlt]
      rw [he, List.getElem?_map, ex] at h1
      rw [← Option.some.inj h1]
      rfl
    obtain ⟨f0, f1, f2, f3, f4, f5⟩ := hf it (by simp)
    rw [← hsz] at st
    refine next_key st ho hd hlt fun h' st' sb => ?_
    have I1 : Inv X pins σ H { s with heap := h' } := I.turned (t' := s.toks) (fun b o hb e => (sb.2 b hb).trans e) f0 f1 f3 f4 f5
    rw [hsz] at st'
    rw [hkey]
    obtain ⟨oi, ei, ci, di⟩ := id st'
    exact ⟨_, rfl, go_of (s := { s with heap := h' }) ei ci di (by decide) ⟨.ref x.2.1, H, I1, rfl, ⟨rfl, kv, x.2.1, ekv, rfl, by rw [e1]; rw [e1] at e2; exact e2⟩, st', fun b hb => (hf b hb).1⟩⟩
  done := by
    intro X hP hw hK hc i pins s σ H E I hf st hg
    subst hP hw hK
    obtain ⟨hi, hq⟩ := hg
    obtain ⟨ho, hz, hs, xs, r, o', es', ep', ho', hx', hd', he, nd⟩ := I.hok a _ hq
    cases Option.some.inj (ho'.symm.trans ho)
    rw [hd] at hd'
    cases hd'
    have hsz : es.size = kvs.length := by
      have e1 := congrArg List.length he
      rw [List.length_map, ← Paired.length r] at e1
      simpa using e1
    obtain ⟨f0, f1, f2, f3, f4, f5⟩ := hf it (by simp)
    rw [← hsz] at st
    exact next_key_end (I.ok.hd hc) st ho hd (by omega) fun h' eb => ⟨rfl, I.turned (t' := s.toks) (fun b o hb e => eb b o hb e) f0 f1 f3 f4 f5⟩
  self := fun _ _ _ _ _ st h => wpAny_pyIter_keyiter st h
def iDt (tl : TE) : TI := fun σ H R => tl σ H fun x H1 => ∃ a kvs, x = .ref a ∧ H1 a = some (.dT kvs) ∧ ∀ o, R (ItdT a o kvs) (upd H1 a (.frz o (.dT kvs)))
theorem pi_dT {X : Cx} {tg l : Expr} {tl : TE} (hl : PE X l tl) : PI X tg l (iDt tl) := by
  intro pins s σ H R I h
  refine thn (hl pins s σ H _ I h) fun v s1 ⟨x, H1, I1, r1, q1⟩ => ?_
  obtain ⟨a, kvs, e, hq, q⟩ := q1
  subst e
  cases r1
  obtain ⟨hz, hs, xs, r, o, es, ep, ho, hx, hd, he, nd⟩ := I1.hok a _ hq
  have hsz : es.size = kvs.length := by
    have e1 := congrArg List.length he
    rw [List.length_map, ← Paired.length r] at e1
    simpa using e1
  refine iter_key hs ho hx hd ?_
  have I2 := I1.freeze (show Mut (some (HO.dT kvs)) from True.intro) hq ho
  have hn : upd H1 a (.frz o (.dT kvs)) s1.heap.objs.size = none := I2.hok.fresh (Nat.le_refl _)
  refine ⟨s1.heap.objs.size, [s1.heap.objs.size], _, _, _, rfl, I2.kept (t' := s1.toks) fun b o e => Heap.get?_push_of_some _ e, turn_dT a _ o kvs es ep hd, ?_, fun b hb => ?_, q o⟩
  · rw [← hsz]
    exact ⟨_, Heap.get?_push_size _ rfl, rfl, rfl⟩
  · have e : b = s1.heap.objs.size := by simpa using hb
    subst e
    exact I2.fpOk (Nat.le_refl _) hn
end L2
/-! OWN RULES: the items of a dict, whatever its keys: one step of the walk -/
namespace PySem
/-- the heap behind an item: the iterator's record, the new pair, all else as before -/
theorem outHeap {h : Heap} {it d : Addr} {i n ep : Nat} {ok ov : Value} (hit : IsItemIter h it d i n ep ok ov) (k v : Value) :
    let h' := (((((h.update it (Obj.mapFields fun x => x.setIfInBounds 3 (rawInt ((i : Int) + 1)))).push { cls := .type "tuple", data := .seq #[k, v] }).update it (Obj.mapFields fun x => x.setIfInBounds 6 k)).update it (Obj.mapFields fun x => x.setIfInBounds 7 v)).update it (Obj.mapFields fun x => x.setIfInBounds 0 (rawInt (h.objs.size : Int)))).update it (Obj.mapFields fun x => x.setIfInBounds 1 (.bool false))
    IsItemIterOut h' it d (i + 1) n ep k v h.objs.size ∧ h'.get? h.objs.size = some { cls := .type "tuple", data := .seq #[k, v] } ∧ ∀ b o, b ≠ it → h.get? b = some o → h'.get? b = some o := by
  have ne : h.objs.size ≠ it := Ne.symm (Nat.ne_of_lt (Heap.lt_size hit))
  have up : ∀ {g : Heap} {vs : Array Value} (j : Nat) (x : Value), g.get? it = some { cls := .type "dict_itemiterator", dict := none, data := .fields vs, slots := #[] } →
      (g.update it (Obj.mapFields fun y => y.setIfInBounds j x)).get? it = some { cls := .type "dict_itemiterator", dict := none, data := .fields (vs.setIfInBounds j x), slots := #[] } := fun {g vs} j x e =>
    Heap.get?_update_self _ e (Obj.isFreed_of_fields (Obj.data_mapFields rfl _))
  have h1 := up 3 (rawInt ((i : Int) + 1)) hit
  have h2 := Heap.get?_push_of_some ({ cls := .type "tuple", data := .seq #[k, v] } : Obj) h1
  have h3 := up 1 (.bool false) (up 0 (rawInt (h.objs.size : Int)) (up 7 v (up 6 k h2)))
  refine ⟨?_, ?_, fun b o hb e => ?_⟩
  · refine h3.trans ?_
    simp [rawInt]
  · simp only [Heap.get?_update_ne _ _ _ _ ne]
    have sz : (h.update it (Obj.mapFields fun x => x.setIfInBounds 3 (rawInt ((i : Int) + 1)))).objs.size = h.objs.size := Heap.size_update ..
    rw [← sz]
    exact Heap.get?_push_size _ rfl
  · simp only [Heap.get?_update_ne _ _ _ _ hb]
    exact Heap.get?_push_of_some _ ((Heap.get?_update_ne _ _ _ _ hb).trans e)
section
variable {prog : Program} {w : World} {A : Around} {E : Value → Shared → Prop} {s : Shared}
set_option maxHeartbeats 0 in
/-- the next item, whatever the keys are -/
theorem next_item {it d : Addr} {i ep : Nat} {es : Array DictEntry} {od : Obj} {ok ov : Value} {Q : Option Value → Shared → Prop} (hit : IsItemIter s.heap it d i es.size ep ok ov) (hod : s.heap.get? d = some od) (hdd : od.data = .dict es ep) (hlt : i < es.size)
    (hQ : ∀ h', IsItemIterOut h' it d (i + 1) es.size ep es[i].key es[i].val s.heap.objs.size → h'.get? s.heap.objs.size = some { cls := .type "tuple", data := .seq #[es[i].key, es[i].val] } →
      (∀ b o, b ≠ it → s.heap.get? b = some o → h'.get? b = some o) → Q (some (.ref s.heap.objs.size)) { s with heap := h' }) : wpAny (model prog w) A (pyNext (.ref it)) Q E s := by
  have hT : s.TypeIs (.ref it) "dict_itemiterator" := ⟨_, hit, rfl⟩
  unfold pyNext
  refine wpAny_bind (wpAny_attempt ?_)
  refine wpAny_callSpecial?_slot hT F.slot_dict_itemiterator_next ?_
  refine wpAny_call_entry F.slot_dict_itemiterator_next hT F.entry_dict_itemiterator_next ?_ (F.args_dict_itemiterator_next_1 _)
  unfold Builtin.«dict_itemiterator.__next__»
  have fl : ∀ {Q' : Array Value → Shared → Prop} {E' : Value → Shared → Prop}, Q' #[.none, .bool false, .ref d, .int i 0, .int es.size 0, .int ep 0, ok, ov] s → wpAny (model prog w) A.in1 (fieldsOf (.ref it)) Q' E' s := fun h => wpAny_fieldsOf hit rfl h
  wp_walk using wpAny_typeNameOfWhole_itemiter hT, fl, wpAny_dictEntries hod hdd, wpAny_dictEpoch hod hdd
  rw [if_neg (show ¬ (i : Int) < 0 by omega), Int.toNat_natCast, Array.getElem?_eq_getElem hlt]
  refine wpAny_bind ?_
  wp_walk using wpAny_typeNameOfWhole_itemiter hT
  refine ⟨_, rfl, wpAny_pure ?_⟩
  rw [Heap.size_update]
  obtain ⟨f1, f2, f3⟩ := outHeap hit es[i].key es[i].val
  exact hQ _ f1 f2 f3
set_option maxHeartbeats 0 in
/-- .. and none behind the last -/
theorem next_item_end {it d : Addr} {i ep : Nat} {es : Array DictEntry} {od : Obj} {ok ov : Value} {Q : Option Value → Shared → Prop} (hh : A.handled = none) (hit : IsItemIter s.heap it d i es.size ep ok ov) (hod : s.heap.get? d = some od) (hdd : od.data = .dict es ep) (hge : es.size ≤ i)
    (hQ : ∀ h', Heap.ExtBut it s.heap h' → Q none { s with heap := h' }) : wpAny (model prog w) A (pyNext (.ref it)) Q E s := by
  have hT : s.TypeIs (.ref it) "dict_itemiterator" := ⟨_, hit, rfl⟩
  unfold pyNext
  refine wpAny_bind (wpAny_attempt ?_)
  refine wpAny_callSpecial?_slot hT F.slot_dict_itemiterator_next ?_
  refine wpAny_call_entry F.slot_dict_itemiterator_next hT F.entry_dict_itemiterator_next ?_ (F.args_dict_itemiterator_next_1 _)
  have hh1 : A.in1.handled = none := hh
  unfold Builtin.«dict_itemiterator.__next__»
  have fl : ∀ {Q' : Array Value → Shared → Prop} {E' : Value → Shared → Prop}, Q' #[.none, .bool false, .ref d, .int i 0, .int es.size 0, .int ep 0, ok, ov] s → wpAny (model prog w) A.in1 (fieldsOf (.ref it)) Q' E' s := fun h => wpAny_fieldsOf hit rfl h
  wp_walk using wpAny_typeNameOfWhole_itemiter hT, fl, wpAny_dictEntries hod hdd, wpAny_dictEpoch hod hdd
  rw [if_neg (show ¬ (i : Int) < 0 by omega), Int.toNat_natCast, Array.getElem?_eq_none hge]
  wp_walk using wpAny_typeNameOfWhole_itemiter hT
  all_goals (try (unfold raiseNew; refine wpAny_bind (wpAny_handled ?_); rw [hh1]))
  all_goals (try wp_walk)
  all_goals first
    | (show wpAny _ _ (isSubtype (.type "StopIteration") (.type "StopIteration")) _ _ _
       rw [isSubtype_stop]
       exact wpAny_pure (wpAny_pure (hQ _ (((Heap.SameBut.update ..).extBut.push _).push _))))
    | (unfold autoParam; size_fits)
    | size_fits
end
end PySem
/-! OWN RULES: a set of ints below 6, made of a list, and sorted -/
namespace L2
open PySem PySem.Spec PyProof.Rows
/-- all rising rows of numbers below n -/
def subsF : Nat → List (List Nat)
  | 0 => [[]]
  | n + 1 => subsF n ++ (subsF n).map (· ++ [n])
/-- the table of such a set -/
def tabF (led : Bool) (js : List Nat) : SetTable := { mask := if js.length < 5 then 7 else 31, place := js.toArray, dummies := #[], finger := 0, led := led, moves := if js.length < 5 then 0 else 1, plain := true }
/-- .. and one that is to grow at once -/
def tabG (led : Bool) (js : List Nat) (n : Nat) : SetTable := { mask := if n < 5 then 7 else 31, place := js.toArray, dummies := #[], finger := 0, led := led, moves := if n < 5 then 0 else 1, plain := true }
def posF (j : Nat) (js : List Nat) : Nat := (js.filter (· < j)).length
def insF (j : Nat) (js : List Nat) : List Nat := js.take (posF j js) ++ j :: js.drop (posF j js)
def okF (led : Bool) (js : List Nat) (j : Nat) : Bool :=
  decide ((tabF led js).freeSlot (j : Int) = some (j, false)) && decide ((tabF led js).put j = (tabG led (insF j js) js.length, posF j js)) && decide ((tabG led (insF j js) js.length).fits (js.length + 1) = true)
    && decide (insF j js ∈ subsF 6) && decide (posF j js ≤ js.length)
    && decide (if (tabG led (insF j js) js.length).tooFull = true then (tabG led (insF j js) js.length).relaid ((insF j js).map fun (k : Nat) => (k : Int)).toArray (SetTable.grown (js.length + 1)) = some (tabF led (insF j js), Array.range (js.length + 1)) ∧ coversAll (Array.range (js.length + 1)) (js.length + 1) = true ∧ (tabF led (insF j js)).fits (js.length + 1) = true
        else tabG led (insF j js) js.length = tabF led (insF j js))
set_option maxRecDepth 100000 in
theorem okF_all : ∀ led ∈ [true, false], ∀ js ∈ subsF 6, ∀ j ∈ List.range 6, j ∈ js ∨ okF led js j = true := by decide +kernel
def wkF (led : Bool) (js : List Nat) (i : Nat) : Bool :=
  decide (SetTable.below (tabF led js).place (if i = 0 then 0 else js.getD (i - 1) 0 + 1) = i)
set_option maxRecDepth 100000 in
theorem wkF_all : ∀ led ∈ [true, false], ∀ js ∈ subsF 6, (tabF led js).fits js.length = true ∧ js.length ≤ 6 ∧ js.Pairwise (· < ·) ∧ (∀ j ∈ js, j < 6) ∧ ∀ i ∈ List.range (js.length + 1), wkF led js i = true := by decide +kernel
theorem hash6 : ∀ j ∈ List.range 6, hashInt (j : Int) = (j : Int) := by decide +kernel
/-- the elements of such a set, as they lie there -/
def esF (tk : Nat → Tok) (js : List Nat) : List (Int × Value) := js.map fun (j : Nat) => ((j : Int), Value.int (j : Int) (tk j))
def ledF (w : World) : Bool := !w.params.followText "set-order"
/-- a set of ints at a -/
def SetAt (w : World) (h : Heap) (a : Addr) (js : List Nat) : Prop := ∃ o tk ep, h.get? a = some o ∧ o.ExactSet ∧ o.data = .set (esF tk js).toArray ep (tabF (ledF w) js)
theorem led_mem (b : Bool) : b ∈ [true, false] := by cases b <;> simp
theorem esF_len (tk : Nat → Tok) (js : List Nat) : (esF tk js).toArray.size = js.length := by simp [esF]
section
variable {prog : Program} {w : World} {A : Around} {E : Value → Shared → Prop} {s : Shared} {a : Addr} {js : List Nat}
theorem esF_elems (tk : Nat → Tok) (h : ∀ j ∈ js, j < 6) : ElemsOf (intKind prog w) (esF tk js).toArray.toList := by
  intro e he
  simp only [esF, List.mem_map] at he
  obtain ⟨j, hj, rfl⟩ := he
  exact ⟨⟨(j : Int), intKind_is _ _ _ _, (hash6 j (List.mem_range.mpr (h j hj))).symm⟩, rfl⟩
theorem esF_find (tk : Nat → Tok) {j : Nat} : ((esF tk js).findIdx? (fun e => (intKind prog w).is (j : Int) e.2)).isSome = decide (j ∈ js) := by
  rw [List.findIdx?_isSome, Bool.eq_iff_iff]
  simp only [esF, List.any_map, List.any_eq_true, decide_eq_true_eq, Function.comp]
  constructor
  · rintro ⟨k, hk, e⟩
    have : (k : Int) = j := by simpa [intKind, Value.isInt] using e.symm
    have : j = k := by omega
    rw [this]; exact hk
  · intro hj
    exact ⟨j, hj, intKind_is _ _ _ _⟩
theorem esF_ins (tk : Nat → Tok) {j : Nat} {t : Tok} (hj : j ∉ js) (hp : posF j js ≤ js.length) : (SetTable.insertAt (esF tk js).toArray (posF j js) ((j : Int), Value.int (j : Int) t)).toList = esF (fun k => if k = j then t else tk k) (insF j js) := by
  have same : ∀ l : List Nat, (∀ k ∈ l, k ∈ js) → esF (fun k => if k = j then t else tk k) l = esF tk l := fun l hl => List.map_congr_left fun k hk => by
    have : k ≠ j := fun z => hj (z ▸ hl k hk)
    simp [this]
  rw [SetTable.toList_insertAt]
  unfold insF
  have e1 := same _ fun k hk => List.mem_of_mem_take (i := posF j js) hk
  have e2 := same _ fun k hk => List.mem_of_mem_drop (i := posF j js) hk
  simp only [esF, List.map_append, List.map_cons, List.map_take, List.map_drop, if_true] at e1 e2 ⊢
  rw [e1, e2]
theorem mem_ins {j k : Nat} : k ∈ insF j js ↔ k ∈ js ∨ k = j := by
  unfold insF
  rw [List.mem_append, List.mem_cons]
  constructor
  · rintro (h | h | h)
    · exact .inl (List.mem_of_mem_take h)
    · exact .inr h
    · exact .inl (List.mem_of_mem_drop h)
  · rintro (h | h)
    · rw [← List.take_append_drop (posF j js) js, List.mem_append] at h
      rcases h with h | h
      · exact .inl h
      · exact .inr (.inr h)
    · exact .inr (.inl h)
theorem ins_len {j : Nat} (hp : posF j js ≤ js.length) : (insF j js).length = js.length + 1 := by
  unfold insF
  rw [List.length_append, List.length_cons, List.length_take, List.length_drop]
  omega
theorem add6 {j : Nat} {t : Tok} {Q : Bool → Shared → Prop} (hS : SetAt w s.heap a js) (hjs : js ∈ subsF 6) (hj : j < 6)
    (h : ∀ b h' js', Heap.SameBut a s.heap h' → js' ∈ subsF 6 → (∀ k, k ∈ js' ↔ k ∈ js ∨ k = j) → SetAt w h' a js' → Q b { s with heap := h' }) :
    wpAny (model prog w) A (setAddHashed a (.int (j : Int) t) (hashInt (j : Int))) Q E s := by
  obtain ⟨o, tk, ep, ho, hex, hd⟩ := id hS
  obtain ⟨hf, hl6, hup, hlt, _⟩ := wkF_all _ (led_mem (ledF w)) js hjs
  have hz := esF_len tk js
  have hf' : (tabF (ledF w) js).fits (esF tk js).toArray.size = true := by rw [hz]; exact hf
  have hel := esF_elems (prog := prog) (w := w) tk hlt
  have hsc : byScan (.int (j : Int) t) (esF tk js).toArray = true := byScan_of (knd := intKind prog w) rfl (by rw [hz]; unfold scanBound; omega) hel
  have line : ∀ n : Nat, n ≤ 7 → n ≤ sizeLine := fun n hn => by rw [sizeLine_eq]; omega
  refine wpAny_holding (wpAny_bind (wpAny_setState_of ho hd hf' ?_))
  dsimp only
  rw [if_pos hsc]
  unfold setAddByScan
  refine wpAny_bind (wpAny_bind (wpAny_rule (wpAny_bind (wpAny_setScan_of (knd := intKind prog w) (k := (j : Int)) (intKind_is _ _ _ _) ho hd hf' hel ?_))))
  have hfd := esF_find (prog := prog) (w := w) (js := js) tk (j := j)
  rw [List.toList_toArray]
  cases hr : List.findIdx? (fun e => (intKind prog w).is (j : Int) e.2) (esF tk js) with
  | some i =>
    rw [hr] at hfd
    have hm : j ∈ js := by simpa using hfd.symm
    refine wpAny_pure (wpAny_pure ?_)
    have := h false s.heap js (Heap.SameBut.refl a s.heap) hjs (fun k => ⟨.inl, fun z => z.elim id fun z => z ▸ hm⟩) hS
    exact this
  | none =>
    rw [hr] at hfd
    have hm : j ∉ js := by simpa using hfd.symm
    have hok := (okF_all _ (led_mem (ledF w)) js hjs j (List.mem_range.mpr hj)).resolve_left hm
    simp only [okF, Bool.and_eq_true, decide_eq_true_eq] at hok
    obtain ⟨⟨⟨⟨⟨k1, k2⟩, k3⟩, k4⟩, k5⟩, k6⟩ := hok
    rw [hash6 j (List.mem_range.mpr hj)]
    have hn := layNew (tabF (ledF w) js) (esF tk js).toArray (j : Int) (Value.int (j : Int) t)
    have hlay : layNew (tabF (ledF w) js) (esF tk js).toArray (j : Int) (Value.int (j : Int) t) = ((esF (fun k => if k = j then t else tk k) (insF j js)).toArray, tabG (ledF w) (insF j js) js.length, false, false) := by
      have e1 : SetTable.insertAt (esF tk js).toArray (posF j js) ((j : Int), Value.int (j : Int) t) = (esF (fun k => if k = j then t else tk k) (insF j js)).toArray := by
        rw [← esF_ins tk hm k5]
      unfold layNew
      rw [k1]
      dsimp only
      rw [k2]
      dsimp only
      rw [e1, esF_len, ins_len k5]
      unfold SetTable.orStandIn
      rw [k3]
      rfl
    rw [hlay]
    have hbv : hashByValue 8 (Value.int (j : Int) t) = pure true := hashByValue_scannable 8 rfl
    have lenI := ins_len k5
    have hz2 := esF_len (fun k => if k = j then t else tk k) (insF j js)
    refine wpAny_bind (wpAny_pure (wpAny_bind (wpAny_of_eq hbv ?_)))
    dsimp only
    refine wpAny_bind (wpAny_storeSet_of ho hd ?_ (line _ (by rw [hz2, lenI]; omega)))
    have ho1 := Heap.get?_update_self (Obj.putSet (esF (fun k => if k = j then t else tk k) (insF j js)).toArray (tabG (ledF w) (insF j js) js.length)) ho (by rw [putSet_of _ _ hd]; rfl)
    rw [putSet_of _ _ hd] at ho1
    simp only [if_true, Bool.not_false, Bool.true_and]
    by_cases hfull : (tabG (ledF w) (insF j js) js.length).tooFull = true
    · rw [if_pos hfull] at k6
      obtain ⟨q1, q2, q3⟩ := k6
      have hrl : relayAll (tabG (ledF w) (insF j js) js.length) (esF (fun k => if k = j then t else tk k) (insF j js)).toArray (SetTable.grown (js.length + 1)) = ((esF (fun k => if k = j then t else tk k) (insF j js)).toArray, tabF (ledF w) (insF j js), false) := by
        have e1 : (esF (fun k => if k = j then t else tk k) (insF j js)).toArray.map (·.1) = ((insF j js).map fun (k : Nat) => (k : Int)).toArray := by
          rw [List.map_toArray]
          simp [esF, Function.comp_def]
        have e2 : (Array.range (js.length + 1)).filterMap ((esF (fun k => if k = j then t else tk k) (insF j js)).toArray[·]?) = (esF (fun k => if k = j then t else tk k) (insF j js)).toArray := by
          refine Array.toList_inj.mp ?_
          rw [Array.toList_filterMap, Array.toList_range, ← lenI, ← hz2]
          exact filterMap_getElem?_range _
        unfold relayAll
        rw [e1, q1]
        dsimp only
        rw [e2, hz2, lenI, q2, q3]
        rfl
      rw [if_pos hfull, hz2, lenI, hrl]
      dsimp only
      refine wpAny_bind (wpAny_pure (wpAny_bind (wpAny_storeSet_of ho1 rfl ?_ (line _ (by rw [hz2, lenI]; omega)))))
      have ho2 := Heap.get?_update_self (Obj.putSet (esF (fun k => if k = j then t else tk k) (insF j js)).toArray (tabF (ledF w) (insF j js))) ho1 (by rw [putSet_of _ _ rfl]; rfl)
      rw [putSet_of _ _ rfl] at ho2
      exact wpAny_pure (wpAny_pure (h true _ (insF j js) ((Heap.SameBut.update _ a _).trans (Heap.SameBut.update _ a _)) k4 (fun k => mem_ins) ⟨_, _, _, ho2, hex, rfl⟩))
    · rw [if_neg hfull] at k6
      rw [if_neg hfull]
      rw [k6] at ho1 ⊢
      exact wpAny_pure (wpAny_pure (h true _ (insF j js) (Heap.SameBut.update _ a _) k4 (fun k => mem_ins) ⟨_, _, _, ho1, hex, rfl⟩))
theorem intsLen : ∀ {vs : List Value} {ns : List Int}, IntsAre vs ns → vs.length = ns.length
  | _, _, .nil => rfl
  | _, _, .cons _ _ r => by rw [List.length_cons, List.length_cons, intsLen r]
/-- set.update's loop over a list of ints -/
structure UpdSt (s : Shared) (l it S : Addr) (w : World) (ns : List Int) (i : Nat) (s' : Shared) : Prop where
  same : s' = { s with heap := s'.heap, toks := s'.toks }
  it : s'.heap.IsListIter it l i
  old : ∀ b o, s.heap.get? b = some o → s'.heap.get? b = some o
  le : i ≤ ns.length
  set : ∃ js, js ∈ subsF 6 ∧ (∀ k : Nat, k ∈ js ↔ (k : Int) ∈ ns.take i) ∧ SetAt w s'.heap S js
theorem SetAt.keep {h h' : Heap} (x : SetAt w h a js) (k : ∀ o, h.get? a = some o → h'.get? a = some o) : SetAt w h' a js := by
  obtain ⟨o, tk, ep, e, r⟩ := x
  exact ⟨o, tk, ep, k o e, r⟩
theorem upd_turns {l it S : Addr} {vs : List Value} {ns : List Int} {R : Result → Shared → Prop} (hh : A.handled = none) (hl : s.heap.IsList l vs.toArray) (hI : IntsAre vs ns) (h6 : ∀ z ∈ ns, 0 ≤ z ∧ z < 6)
    (hit : ∀ o, s.heap.get? it ≠ some o) (hS : ∀ o, s.heap.get? S ≠ some o) (hIS : it ≠ S)
    (hR : ∀ h' tk js, js ∈ subsF 6 → (∀ k : Nat, k ∈ js ↔ (k : Int) ∈ ns) → SetAt w h' S js → (∀ b o, s.heap.get? b = some o → h'.get? b = some o) → R (.ok (.ret .none)) { s with heap := h', toks := tk }) {s1 : Shared} (h1 : UpdSt s l it S w ns 0 s1) :
    codeAny (model prog w) A (.builtin "set.update.loop" ⟨[.ref S, .ref it], []⟩) R s1 := by
  have lenv : vs.length = ns.length := intsLen hI
  refine codeAny_loop (plainId_quiet F.plain_set_update_loop _) (fun n s' => ∃ i, n = ns.length - i ∧ UpdSt s l it S w ns i s') (fun n s' ⟨i, en, M⟩ => ?_) ns.length ⟨0, by simp, h1⟩
  rw [Around.under_plainId F.plain_set_update_loop, den_builtin F.entry_set_update_loop]
  have hl' : s'.heap.IsList l vs.toArray := by
    obtain ⟨o, ho, r⟩ := hl
    exact ⟨o, M.old l o ho, r⟩
  obtain ⟨js, hjs, hmem, hset⟩ := M.set
  show wpAny _ A.in1 (pyNext (.ref it) >>= _) _ _ s'
  by_cases hi : i < ns.length
  · obtain ⟨v, hv⟩ : ∃ v, vs[i]? = some v := ⟨vs[i]'(by omega), by simp [lenv, hi]⟩
    obtain ⟨t, ev⟩ := hI.int_at i v hv
    obtain ⟨z, hz⟩ : ∃ z, ns[i]? = some z := ⟨ns[i], by simp [hi]⟩
    have hzm : z ∈ ns := List.mem_of_getElem? hz
    obtain ⟨z0, z6⟩ := h6 z hzm
    obtain ⟨j, rfl⟩ := Int.eq_ofNat_of_zero_le z0
    rw [List.getD_eq_getElem?_getD, hz] at ev
    have ev' : v = Value.int (j : Int) t := ev
    subst ev'
    refine wpAny_bind (wpAny_pyNext_list_item M.it hl' (by simpa using hv) fun h2 i2 sb => ?_)
    have old2 : ∀ b o, s.heap.get? b = some o → h2.get? b = some o := fun b o e => (sb.2 b (fun q => hit o (by rw [← q]; exact e))).trans (M.old b o e)
    show wpAny _ A.in1 (holding [Value.int (j : Int) t] (setAdd S (.int (j : Int) t)) >>= _) _ _ _
    refine wpAny_bind (wpAny_holding (wpAny_holding (wpAny_bind ((intKind prog w).pyHash (k := (j : Int)) (intKind_is _ _ _ _) ?_))))
    refine add6 (js := js) (hset.keep fun o e => (sb.2 S (Ne.symm hIS)).trans e) hjs (by omega) fun b h3 js' sb3 hjs' hm3 hs3 => ?_
    refine wpAny_pure ⟨rfl, ns.length - (i + 1), by omega, i + 1, rfl, ?_, i2.at fun o q => (sb3.2 it hIS).trans q, fun b o e => (sb3.2 b (fun q => hS o (by rw [← q]; exact e))).trans (old2 b o e), hi, js', hjs', fun k => ?_, hs3⟩
    · rw [M.same]
    · rw [hm3 k, hmem k, List.take_succ, hz]
      rw [List.mem_append]
      simp only [Option.toList_some, List.mem_singleton, Int.ofNat_inj]
  · have ei : i = ns.length := by have := M.le; omega
    subst ei
    refine wpAny_bind (wpAny_pyNext_list_end hh M.it hl' (by simp; omega) fun h2 eb => ?_)
    refine wpAny_pure ?_
    have := hR h2 s'.toks js hjs (fun k => by rw [hmem k, List.take_length]) (hset.keep fun o e => eb S o (Ne.symm hIS) e) (fun b o e => eb b o (fun q => hit o (by rw [← q]; exact e)) (M.old b o e))
    rw [M.same]
    exact this
abbrev set0 (w : World) : Obj := { cls := .type "set", dict := none, data := .set #[] 0 (tabF (ledF w) []) }
theorem new6 {v : Value} {R : Result → Shared → Prop} (h : R (.ok (.ret (.ref s.heap.objs.size))) { s with heap := s.heap.push (set0 w) }) :
    codeAny (model prog w) A (.call (.builtin "set.__new__") ⟨[.type "set", v], []⟩) R s := by
  refine codeAny_call_builtin F.plain_set_new F.entry_set_new (wpAny_of_eq (F.newCall_set_1 v) ?_)
  unfold Builtin.«set.__new__» Builtin.Frozenset.newClass
  have i1 := sub_set_self
  obtain ⟨hp, g, d, tk, os⟩ := s
  wp_walk
  refine wpAny_askSetting (wpAny_pure ?_)
  exact wpAny_newObj_type (wpAny_pure h)
set_option maxHeartbeats 4000000 in
theorem call_set6 {l : Addr} {vs : List Value} {ns : List Int} {Q : Value → Shared → Prop} (hh : A.handled = none) (hl : s.heap.IsList l vs.toArray) (hI : IntsAre vs ns) (h6 : ∀ z ∈ ns, 0 ≤ z ∧ z < 6)
    (h : ∀ h' tk js, js ∈ subsF 6 → (∀ k : Nat, k ∈ js ↔ (k : Int) ∈ ns) → SetAt w h' s.heap.objs.size js → (∀ b o, s.heap.get? b = some o → h'.get? b = some o) → Q (.ref s.heap.objs.size) { s with heap := h', toks := tk }) :
    wpAny (model prog w) A (call (.type "set") [.ref l]) Q E s := by
  have cs := F.called_set
  obtain ⟨c, tl, m1⟩ := cs.mro
  have m2 := cs.made
  have m3 := cs.sub
  have m4 := cs.notType
  have m5 := cs.canCreate
  have m6 := F.typeCall_set_1 (.ref l)
  refine wpAny_call (codeAny_of_tree ?_)
  refine wpAny_pure ⟨Code.quiet_builtin _ (by decide +kernel), codeAny_builtin F.entry_type_call ?_⟩
  rw [Around.under_plain (weight_type_call_type "set" [.ref l] []) rfl]
  repeat (any_goals (first | assumption | wp_step))
  refine new6 ?_
  have at0 : (s.heap.push (set0 w)).get? s.heap.objs.size = some (set0 w) := Heap.get?_push_size _ rfl
  have hT : Shared.TypeIs { s with heap := s.heap.push (set0 w) } (.ref s.heap.objs.size) "set" := ⟨_, at0, rfl⟩
  have m7 := cs.init.lookup
  have m8 := cs.init.bind (.ref s.heap.objs.size)
  dsimp only
  repeat (any_goals (first | assumption | wp_step))
  refine codeAny_call_builtin cs.init.plain F.entry_set_init (check_set_init_1 hT ?_)
  obtain ⟨ol, hol, hcl, nl, hdl⟩ := id hl
  have hl1 : (s.heap.push (set0 w)).IsList l vs.toArray := hl.push _
  have hTl : Shared.TypeIs { s with heap := s.heap.push (set0 w) } (.ref l) "list" := ⟨ol, Heap.get?_push_of_some _ hol, hcl⟩
  have n1 := F.sub_list_set
  have n2 := F.sub_list_frozenset
  unfold Builtin.«set.__init__» noKeywords Builtin.Frozenset.updateFrom
  generalize hPI : pyIter = PI
  wp_walk using wpAny_typeOf hTl
  subst hPI
  have hsz : (s.heap.push (set0 w)).objs.size = s.heap.objs.size + 1 := Heap.size_push ..
  refine wpAny_pyIter_list hl1 (wpAny_bind (wpAny_runValue ?_))
  show codeAny (model prog w) A.in1.in1 (.builtin "set.update.loop" ⟨[.ref s.heap.objs.size, .ref (s.heap.push (set0 w)).objs.size], []⟩) _ _
  rw [hsz]
  have fr : ∀ {b : Addr}, s.heap.objs.size ≤ b → ∀ o, s.heap.get? b ≠ some o := fun {b} z o e => absurd (Heap.lt_size e) (Nat.not_lt.mpr z)
  have U : UpdSt s l (s.heap.objs.size + 1) s.heap.objs.size w ns 0 { s with heap := (s.heap.push (set0 w)).push { cls := .type "list_iterator", data := .fields #[.ref l, .int 0 0] } } :=
    ⟨rfl, ⟨_, hsz ▸ Heap.get?_push_size _ rfl, rfl, rfl⟩, fun b o e => Heap.get?_push_of_some _ (Heap.get?_push_of_some _ e), Nat.zero_le _, [], by decide, fun k => by simp, ⟨_, fun _ => 0, 0, Heap.get?_push_of_some _ at0, ⟨rfl, rfl, rfl⟩, rfl⟩⟩
  refine upd_turns (A := A.in1.in1) (prog := prog) (s := s) (show A.in1.in1.handled = none from hh) hl hI h6 (fr (Nat.le_succ _)) (fr (Nat.le_refl _)) (Nat.ne_of_gt (Nat.lt_succ_self _)) (fun h' tk js a1 a2 a3 a4 => ?_) U
  exact wpAny_pure (wpAny_pure (wpAny_pure (wpAny_pure (h h' tk js a1 a2 a3 a4))))
theorem slot_setit : Slot "set_iterator" "__next__" "set_iterator.__next__" :=
  .of (owner := "set_iterator") (n := "__next__") (by rw [typeLookup_type, builtinLookup_eq_fast]; kernel_rfl) (by decide +kernel) (by decide +kernel) (by decide +kernel)
    (by first | exact .inl (by decide +kernel) | exact .inr (by decide +kernel)) (by rw [isSubtype_type]; kernel_rfl)
theorem entry_setit : entryFor table "set_iterator.__next__" = some Builtin.«set_iterator.__next__» := entryFor_of_tree (by kernel_rfl)
theorem owner_setit : Manifest.owners.lookup (String.ofList ['r', 'o', 't', 'a', 'r', 'e', 't', 'i', '_', 't', 'e', 's'].reverse) = some Manifest.sig_set_iterator := by kernel_rfl
theorem args_setit (a : Value) : argsOk "set_iterator.__next__" ⟨[a], []⟩ := by
  unfold argsOk; rw [signature?_of (id := "set_iterator.__next__") (n := ['_', '_', 't', 'x', 'e', 'n', '_', '_']) (o := ['r', 'o', 't', 'a', 'r', 'e', 't', 'i', '_', 't', 'e', 's']) (by kernel_rfl) owner_setit]; kernel_rfl
theorem entry_setiter : entryFor table "set.__iter__" = some Builtin.«frozenset.__iter__» := entryFor_alias (id' := "frozenset.__iter__") (by kernel_rfl) rfl (by decide +kernel) (by kernel_rfl)
/-- the row in which a set's elements are told -/
def rowF (w : World) (a : Addr) (ep : Nat) (es : Array (Int × Value)) : Array (Int × Value) := if w.params.followText "set-order" = true then pickOrder (w.params.setOrder a ep) es else es
/-- the iterator of a set, i items told -/
def SetIt (w : World) (h : Heap) (it a : Addr) (js : List Nat) (ep i : Nat) : Prop := ∃ o, ∃ slot : Nat, h.get? it = some o ∧ o.cls = .type "set_iterator" ∧ o.data = .fields #[.int (slot : Int) 0, .int i 0, .ref a, .int js.length 0, .int ep 0] ∧
  (w.params.followText "set-order" = false → slot = if i = 0 then 0 else js.getD (i - 1) 0 + 1)
/-- a set whose object is known -/
def SetK (w : World) (h : Heap) (a : Addr) (js : List Nat) (tk : Nat → Tok) (ep : Nat) : Prop := ∃ o, h.get? a = some o ∧ o.ExactSet ∧ o.data = .set (esF tk js).toArray ep (tabF (ledF w) js)
theorem iter6 {tk : Nat → Tok} {ep : Nat} {Q : Value → Shared → Prop} (hS : SetK w s.heap a js tk ep) (hjs : js ∈ subsF 6)
    (hQ : Q (.ref s.heap.objs.size) { s with heap := s.heap.push { cls := .type "set_iterator", data := .fields #[.int 0 0, .int 0 0, .ref a, .int js.length 0, .int ep 0] } }) : wpAny (model prog w) A (pyIter (.ref a)) Q E s := by
  obtain ⟨o, ho, hex, hd⟩ := hS
  obtain ⟨hf, hl6, hup, hlt, _⟩ := wkF_all _ (led_mem (ledF w)) js hjs
  have hz := esF_len tk js
  have hf' : (tabF (ledF w) js).fits (esF tk js).toArray.size = true := by rw [hz]; exact hf
  have hT : s.TypeIs (.ref a) "set" := ⟨o, ho, hex.1⟩
  have run : wpAny (model prog w) A.in1 (Builtin.«frozenset.__iter__» ⟨[.ref a], []⟩) (fun fin s' => fin = .done (.ret (.ref s.heap.objs.size)) ∧ s' = { s with heap := s.heap.push { cls := .type "set_iterator", data := .fields #[.int 0 0, .int 0 0, .ref a, .int js.length 0, .int ep 0] } }) E s := by
    unfold Builtin.«frozenset.__iter__» Builtin.Frozenset.sizeOf setDrawn setsByText
    wp_walk using wpAny_setEntries_of ho hd hf', wpAny_setState_of ho hd hf', wpAny_setEpoch_of ho hd hf'
    refine wpAny_askSetting (wpAny_pure (wpAny_pure ?_))
    refine wpAny_ite_split (fun z => ?_) fun _ => ?_
    · rw [Bool.and_eq_true] at z
      exact absurd (show false = true from z.2) (by decide)
    · wp_walk using wpAny_setEpoch_of ho hd hf'
      rw [hz]
      exact ⟨rfl, rfl⟩
  refine wpAny_pyIter_slot hT F.slot_set_iter (wpAny_call_entry F.slot_set_iter hT entry_setiter (wpAny_mono run (fun f s' z => ?_) fun _ _ z => z) (F.args_set_iter_1 _))
  obtain ⟨rfl, rfl⟩ := z
  exact ⟨_, rfl, "set_iterator", _, ⟨_, Heap.get?_push_size _ rfl, rfl⟩, slot_setit.lookup, hQ⟩
theorem setNext6 {tk : Nat → Tok} {slot ep i : Nat} {Q : Option (Value × Nat) → Shared → Prop} (hS : SetK w s.heap a js tk ep) (hjs : js ∈ subsF 6) (hi : i ≤ js.length) (hsl : w.params.followText "set-order" = false → slot = if i = 0 then 0 else js.getD (i - 1) 0 + 1)
    (h : Q ((rowF w a ep (esF tk js).toArray)[i]?.map fun e => (e.2, if w.params.followText "set-order" = true then slot else js.getD i 0 + 1)) s) : wpAny (model prog w) A (setNext a slot i ep) Q E s := by
  obtain ⟨o, ho, hex, hd⟩ := hS
  obtain ⟨hf, hl6, hup, hlt, hbl⟩ := wkF_all _ (led_mem (ledF w)) js hjs
  have hz := esF_len tk js
  have hf' : (tabF (ledF w) js).fits (esF tk js).toArray.size = true := by rw [hz]; exact hf
  unfold setNext setsByText
  refine wpAny_bind (wpAny_setState_of ho hd hf' (wpAny_bind (wpAny_bind (wpAny_askSetting (wpAny_pure ?_)))))
  dsimp only
  refine wpAny_ite_split (fun hb => ?_) fun hb => ?_
  · have hb' : w.params.followText "set-order" = true := hb
    refine wpAny_ite_split (fun z => absurd z (by simp)) fun _ => ?_
    refine wpAny_bind ?_
    unfold setWalk setsByText
    refine wpAny_bind (wpAny_setState_of ho hd hf' (wpAny_bind (wpAny_bind (wpAny_askSetting (wpAny_pure ?_)))))
    dsimp only
    refine wpAny_ite_split (fun _ => ?_) fun z => absurd hb z
    refine wpAny_bind (wpAny_askSetting (wpAny_pure (wpAny_pure ?_)))
    rw [if_pos hb'] at h
    unfold rowF at h
    rw [if_pos hb'] at h
    exact h
  · have hb' : w.params.followText "set-order" = false := by
      cases z : w.params.followText "set-order" with
      | false => rfl
      | true => exact absurd z hb
    have hled : ledF w = true := by unfold ledF; rw [hb']; rfl
    refine wpAny_ite_split (fun z => absurd (show false = true from z) (by decide)) fun _ => ?_
    rw [hled] at hbl ⊢
    refine wpAny_bind ?_
    show wpAny _ _ (pure ()) _ _ _
    refine wpAny_pure (wpAny_pure ?_)
    have e1 := hbl i (List.mem_range.mpr (by omega))
    simp only [wkF, decide_eq_true_eq] at e1
    rw [hsl hb', e1]
    have e2 : rowF w a ep (esF tk js).toArray = (esF tk js).toArray := by unfold rowF; rw [hb']; rfl
    rw [e2] at h
    simp only [hb', Bool.false_eq_true, if_false] at h
    by_cases hlt' : i < js.length
    · have e3 : (tabF true js).place[i]? = some js[i] := by simp [tabF, hlt']
      have e4 : (esF tk js).toArray[i]? = some ((js[i] : Int), Value.int (js[i] : Int) (tk js[i])) := by simp [esF, hlt']
      rw [e4] at h ⊢
      rw [e3]
      have e5 : js.getD i 0 = js[i] := by simp [List.getD_eq_getElem?_getD, hlt']
      rw [e5] at h
      exact h
    · have e4 : (esF tk js).toArray[i]? = none := by simp [esF]; omega
      rw [e4] at h ⊢
      exact h
end
theorem pick_go {α : Type} (next : Nat → Nat) : ∀ (fuel k : Nat) (left : List α) (out : Array α), left.length = fuel → (pickOrder.go next fuel k left out).toList.Perm (out.toList ++ left)
  | 0, k, left, out, h => by
    have : left = [] := List.length_eq_zero_iff.mp h
    subst this
    simp [pickOrder.go]
  | fuel + 1, k, left, out, h => by
    have hp : 0 < left.length := by omega
    have hlt : next k % left.length < left.length := Nat.mod_lt _ hp
    have he : left[next k % left.length]? = some left[next k % left.length] := by simp [hlt]
    unfold pickOrder.go
    rw [he]
    dsimp only
    refine (pick_go next fuel (k + 1) _ _ (by rw [List.length_eraseIdx_of_lt hlt]; omega)).trans ?_
    rw [Array.toList_push, List.append_assoc]
    refine List.Perm.append_left _ ?_
    rw [List.eraseIdx_eq_take_drop_succ]
    have e := List.take_append_drop (next k % left.length) left
    rw [List.drop_eq_getElem_cons hlt] at e
    refine (List.perm_middle (a := left[next k % left.length]) (l₁ := left.take (next k % left.length)) (l₂ := left.drop (next k % left.length + 1))).symm.trans ?_
    rw [e]
theorem row_perm (w : World) (a : Addr) (ep : Nat) (es : Array (Int × Value)) : (rowF w a ep es).toList.Perm es.toList := by
  unfold rowF
  split
  · have := pick_go (w.params.setOrder a ep) es.size 0 es.toList #[] (by simp)
    simpa [pickOrder] using this
  · exact List.Perm.refl _
section
variable {prog : Program} {w : World} {A : Around} {E : Value → Shared → Prop} {s : Shared} {a : Addr} {js : List Nat}
theorem row_size (tk : Nat → Tok) (ep : Nat) : (rowF w a ep (esF tk js).toArray).size = js.length := by
  have := (row_perm w a ep (esF tk js).toArray).length_eq
  rw [Array.length_toList, Array.length_toList, esF_len] at this
  exact this
theorem next6 {tk : Nat → Tok} {it : Addr} {ep i : Nat} {Q : Option Value → Shared → Prop} (hit : SetIt w s.heap it a js ep i) (hS : SetK w s.heap a js tk ep) (hjs : js ∈ subsF 6) (hi : i < js.length)
    (hQ : ∀ v h', (rowF w a ep (esF tk js).toArray)[i]?.map (·.2) = some v → SetIt w h' it a js ep (i + 1) → Heap.SameBut it s.heap h' → Q (some v) { s with heap := h' }) : wpAny (model prog w) A (pyNext (.ref it)) Q E s := by
  obtain ⟨oi, slot, hoi, hci, hdi, hsl⟩ := hit
  obtain ⟨o, ho, hex, hd⟩ := hS
  obtain ⟨hf, hl6, hup, hlt, hbl⟩ := wkF_all _ (led_mem (ledF w)) js hjs
  have hz := esF_len tk js
  have hf' : (tabF (ledF w) js).fits (esF tk js).toArray.size = true := by rw [hz]; exact hf
  have hT : s.TypeIs (.ref it) "set_iterator" := ⟨oi, hoi, hci⟩
  unfold pyNext
  refine wpAny_bind (wpAny_attempt (wpAny_callSpecial?_slot hT slot_setit (wpAny_call_entry slot_setit hT entry_setit ?_ (args_setit _))))
  unfold Builtin.«set_iterator.__next__»
  generalize hN : setNext = SN
  wp_walk using wpAny_fieldsOf hoi hdi, wpAny_setEntries_of ho hd hf'
  subst hN
  rw [Int.toNat_natCast, Int.toNat_natCast, Int.toNat_natCast]
  refine setNext6 (tk := tk) ⟨o, ho, hex, hd⟩ hjs (Nat.le_of_lt hi) hsl ?_
  have hrs := row_size (w := w) (a := a) (js := js) tk ep
  obtain ⟨e, he⟩ : ∃ e, (rowF w a ep (esF tk js).toArray)[i]? = some e := ⟨(rowF w a ep (esF tk js).toArray)[i]'(by omega), by simp [hrs, hi]⟩
  rw [he]
  have ho1 := Heap.get?_update_self (Obj.mapFields (·.setIfInBounds 0 (rawInt ((if w.params.followText "set-order" = true then slot else js.getD i 0 + 1 : Nat) : Int)))) hoi (Obj.isFreed_of_fields (Obj.data_mapFields hdi _))
  have hd1 := Obj.data_mapFields hdi (·.setIfInBounds 0 (rawInt ((if w.params.followText "set-order" = true then slot else js.getD i 0 + 1 : Nat) : Int)))
  have ho2 := Heap.get?_update_self (Obj.mapFields (·.setIfInBounds 1 (rawInt ((i : Int) + 1)))) ho1 (Obj.isFreed_of_fields (Obj.data_mapFields hd1 _))
  have hd2 := Obj.data_mapFields hd1 (·.setIfInBounds 1 (rawInt ((i : Int) + 1)))
  refine wpAny_bind (wpAny_setField hoi hdi (by simp) ?_)
  refine wpAny_bind (wpAny_setField ho1 hd1 (by simp) ?_)
  refine wpAny_pure ⟨_, rfl, wpAny_pure (hQ _ _ (by rw [he]; rfl) ⟨_, if w.params.followText "set-order" = true then slot else js.getD i 0 + 1, ho2, ?_, ?_, fun z => ?_⟩ ((Heap.SameBut.update ..).trans (Heap.SameBut.update ..)))⟩
  · rw [Obj.cls_mapFields, Obj.cls_mapFields]; exact hci
  · rw [hd2]; simp [rawInt]
  · rw [z]; simp
theorem end6 {tk : Nat → Tok} {it : Addr} {ep : Nat} {Q : Option Value → Shared → Prop} (hh : A.handled = none) (hit : SetIt w s.heap it a js ep js.length) (hS : SetK w s.heap a js tk ep) (hjs : js ∈ subsF 6)
    (hQ : ∀ h', Heap.ExtBut it s.heap h' → Q none { s with heap := h' }) : wpAny (model prog w) A (pyNext (.ref it)) Q E s := by
  obtain ⟨oi, slot, hoi, hci, hdi, hsl⟩ := hit
  obtain ⟨o, ho, hex, hd⟩ := hS
  obtain ⟨hf, hl6, hup, hlt, hbl⟩ := wkF_all _ (led_mem (ledF w)) js hjs
  have hz := esF_len tk js
  have hf' : (tabF (ledF w) js).fits (esF tk js).toArray.size = true := by rw [hz]; exact hf
  have hT : s.TypeIs (.ref it) "set_iterator" := ⟨oi, hoi, hci⟩
  unfold pyNext
  refine wpAny_bind (wpAny_attempt (wpAny_callSpecial?_slot hT slot_setit (wpAny_call_entry slot_setit hT entry_setit ?_ (args_setit _))))
  unfold Builtin.«set_iterator.__next__»
  generalize hN : setNext = SN
  wp_walk using wpAny_fieldsOf hoi hdi, wpAny_setEntries_of ho hd hf'
  subst hN
  rw [Int.toNat_natCast, Int.toNat_natCast, Int.toNat_natCast]
  refine setNext6 (tk := tk) ⟨o, ho, hex, hd⟩ hjs (Nat.le_refl _) hsl ?_
  have hrs := row_size (w := w) (a := a) (js := js) tk ep
  have he : (rowF w a ep (esF tk js).toArray)[js.length]? = none := by simp [hrs]
  rw [he]
  refine wpAny_bind (wpAny_setField hoi hdi (by simp) ?_)
  unfold newExc raiseNew newTuple firstArgMember
  wp_walk using wpAny_newObj_type
  all_goals first
    | (show wpAny _ _ (isSubtype (.type "StopIteration") (.type "StopIteration")) _ _ _
       rw [isSubtype_stop]
       exact wpAny_pure (wpAny_pure (hQ _ (((Heap.SameBut.update ..).extBut.push _).push _))))
    | (unfold autoParam; size_fits)
    | size_fits
end
section
variable {prog : Program} {w : World} {A : Around} {E : Value → Shared → Prop} {s : Shared} {a : Addr} {js : List Nat}
theorem hint6 {Q : Bool → Shared → Prop} (hT : s.TypeIs (.ref a) "set") (h : Q false s) : wpAny (model prog w) A (Builtin.List.listLengthHint (.ref a)) Q E s := by
  have i2 : splitId "set.__len__" = some ("set", "__len__") := by decide +kernel
  unfold Builtin.List.listLengthHint
  refine wpAny_bind (wpAny_specialOf hT F.slot_set_len.lookup ?_)
  dsimp only
  rw [i2]
  refine wpAny_bind (wpAny_isInstance (T := "set") (b := true) hT sub_set_self (wpAny_ite_split (fun z => absurd z (by decide)) fun _ => ?_))
  refine wpAny_ite_split (fun _ => wpAny_bind (wpAny_typeOf hT (wpAny_pure h))) fun z => absurd (by decide +kernel) z
theorem SetK.keep {tk : Nat → Tok} {ep : Nat} {h h' : Heap} (x : SetK w h a js tk ep) (k : ∀ o, h.get? a = some o → h'.get? a = some o) : SetK w h' a js tk ep := by
  obtain ⟨o, e, r⟩ := x
  exact ⟨o, k o e, r⟩
theorem SetIt.keep {it : Addr} {ep i : Nat} {h h' : Heap} (x : SetIt w h it a js ep i) (k : ∀ o, h.get? it = some o → h'.get? it = some o) : SetIt w h' it a js ep i := by
  obtain ⟨o, sl, e, r⟩ := x
  exact ⟨o, sl, k o e, r⟩
theorem slot_setself : Slot "set_iterator" "__iter__" "set_iterator.__iter__" :=
  .of (owner := "set_iterator") (n := "__iter__") (by rw [typeLookup_type, builtinLookup_eq_fast]; kernel_rfl) (by decide +kernel) (by decide +kernel) (by decide +kernel)
    (by first | exact .inl (by decide +kernel) | exact .inr (by decide +kernel)) (by rw [isSubtype_type]; kernel_rfl)
theorem entry_setself : entryFor table "set_iterator.__iter__" = some Builtin.«dict_keyiterator.__iter__» := entryFor_alias (id' := "dict_keyiterator.__iter__") (by kernel_rfl) rfl (by decide +kernel) (by kernel_rfl)
theorem args_setself (a : Value) : argsOk "set_iterator.__iter__" ⟨[a], []⟩ := by
  unfold argsOk; rw [signature?_of (id := "set_iterator.__iter__") (n := ['_', '_', 'r', 'e', 't', 'i', '_', '_']) (o := ['r', 'o', 't', 'a', 'r', 'e', 't', 'i', '_', 't', 'e', 's']) (by kernel_rfl) owner_setit]; kernel_rfl
theorem self6 {it : Addr} {Q : Value → Shared → Prop} (hT : s.TypeIs (.ref it) "set_iterator") (hQ : Q (.ref it) s) : wpAny (model prog w) A (pyIter (.ref it)) Q E s := by
  refine wpAny_pyIter_slot hT slot_setself (wpAny_call_entry slot_setself hT entry_setself ?_ (args_setself _))
  unfold Builtin.«dict_keyiterator.__iter__»
  wp_walk
  exact ⟨_, rfl, "set_iterator", _, hT, slot_setit.lookup, hQ⟩
theorem src6 {tk : Nat → Tok} {ep : Nat} (hjs : js ∈ subsF 6) : PySem.W.KdlSrc prog w "set" a a js.length (fun i v => (rowF w a ep (esF tk js).toArray)[i]?.map (·.2) = some v) (fun h => SetK w h a js tk ep) where
  type := fun _ ⟨o, ho, hex, _⟩ => ⟨o, ho, hex.1⟩
  there := fun _ ⟨o, ho, _⟩ => ⟨Heap.lt_size ho, Heap.lt_size ho⟩
  keep := fun _ _ hm hk => hm.keep fun o e => hk a (.inl rfl) o e
  notList := by decide
  notTuple := by decide
  hint := fun _ _ _ _ ⟨o, ho, hex, _⟩ hq => hint6 ⟨o, ho, hex.1⟩ hq
  iter := fun A s hh hm => ⟨_, fun i h => SetIt w h s.heap.objs.size a js ep i ∧ SetK w h a js tk ep, fun _ _ hq => iter6 hm hjs hq, by
    obtain ⟨o, ho, hr⟩ := id hm
    have ne : a ≠ s.heap.objs.size := Nat.ne_of_lt (Heap.lt_size ho)
    refine ⟨fun b hb => List.mem_cons.mpr (.inl (List.mem_singleton.mp hb)), fun i h h' ⟨x, y⟩ k => ⟨x.keep fun o e => k _ (by simp) o e, y.keep fun o e => k _ (by simp) o e⟩, fun i s' Q E hi ⟨x, y⟩ hQ => ?_, fun s' Q E ⟨x, y⟩ hQ => ?_, fun i s' Q E ⟨x, y⟩ hQ => ?_⟩
    · refine next6 x y hjs hi fun v h' hv x' sb => ?_
      exact hQ v h' s'.toks hv ⟨x', y.keep fun o e => (sb.2 a ne).trans e⟩ fun b o hb e => (sb.2 b (fun z => hb (by simp [z]))).trans e
    · exact end6 hh x y hjs fun h' eb => hQ h' s'.toks fun b o hb e => eb b o (fun z => hb (by simp [z])) e
    · obtain ⟨o, sl, e, c, _⟩ := x
      exact self6 ⟨o, e, c⟩ hQ, ⟨⟨_, 0, Heap.get?_push_size _ rfl, rfl, rfl, fun _ => by simp⟩, hm.keep fun o e => Heap.get?_push_of_some _ e⟩⟩
end
/-- a set of ints below 6 -/
def IsSet (w : World) (a : Addr) (js : List Nat) : HO := .ext fun h => SetAt w h a js
section
variable {X : Cx}
theorem up_eq {js : List Nat} (up : js.Pairwise (· < ·)) {ns : List Int} (hp : ns.Perm (js.map fun (j : Nat) => (j : Int))) (hs : ns.Pairwise (· ≤ ·)) : ns = js.map fun (j : Nat) => (j : Int) := by
  have up' : (js.map fun (j : Nat) => (j : Int)).Pairwise (· ≤ ·) := by
    rw [List.pairwise_map]
    exact up.imp fun h => by omega
  exact List.Perm.eq_of_pairwise (fun a b _ _ h1 h2 => Int.le_antisymm h1 h2) hs up' hp
theorem ints_perm {tk : Nat → Tok} {l : List Nat} {vs : List Value} (h : vs.Perm (l.map fun (j : Nat) => Value.int (j : Int) (tk j))) : ∃ ns, IntsAre vs ns ∧ ns.Perm (l.map fun (j : Nat) => (j : Int)) := by
  have all : ∀ v ∈ vs, ∃ (z : Int) (t : Tok), v = Value.int z t := fun v hv => by
    obtain ⟨j, _, rfl⟩ := List.mem_map.mp (h.mem_iff.mp hv)
    exact ⟨_, _, rfl⟩
  let f : Value → Int := fun v => match v with | .int z _ => z | _ => 0
  refine ⟨vs.map f, ?_, ?_⟩
  · clear h
    induction vs with
    | nil => exact .nil
    | cons v r ih =>
      obtain ⟨z, t, rfl⟩ := all v (List.mem_cons_self ..)
      exact .cons z t (ih fun u hu => all u (List.mem_cons_of_mem _ hu))
  · have := h.map f
    rw [List.map_map] at this
    exact this
/-- set(xs), xs a list of ints from 0 to 5 -/
theorem call_setI (hc : X.calm = true) : CallR X (.type "set") (fun xs H Q => ∃ (p : Addr) (ns : List Int), xs = [.ref p] ∧ SqL X.K H p (ns.map V.int) ∧ (∀ z ∈ ns, 0 ≤ z ∧ z < 6) ∧
    ∀ (q : Addr) (js : List Nat), H q = none → js ∈ subsF 6 → (∀ k : Nat, k ∈ js ↔ (k : Int) ∈ ns) → Q (.ref q) (upd H q (IsSet X.w q js))) := by
  intro pins s σ H xs us Q I r h
  obtain ⟨p, ns, rfl, hq, h6, q⟩ := h
  obtain ⟨u, rfl, rx⟩ := vals1 r
  cases rx
  obtain ⟨its, r', pl, hz⟩ := I.list hq
  refine call_set6 (I.ok.hd hc) pl.isList (intsAre_of r') h6 fun h' tk js a1 a2 a3 a4 => ?_
  have hn : H s.heap.objs.size = none := I.fresh
  obtain ⟨o, _, _, ho, _⟩ := id a3
  exact ⟨.ref s.heap.objs.size, _, I.laid (a := s.heap.objs.size) (o := IsSet X.w s.heap.objs.size js) (t' := tk) a4 (Nat.le_refl _) ⟨a3, ⟨o, ho⟩, fun h1 h2 x k => x.keep k⟩, rfl, q _ js hn a1 a2⟩
/-- sorted(s), s such a set -/
theorem call_sortedS (hc : X.calm = true) : CallR X (.builtin "sorted") (fun xs H Q => ∃ (p : Addr) (js : List Nat), xs = [.ref p] ∧ H p = some (IsSet X.w p js) ∧ js ∈ subsF 6 ∧
    ∀ q : Addr, H q = none → Q (.ref q) (upd H q (.lst (js.map fun (j : Nat) => V.int j)))) := by
  intro pins s σ H xs us Q I r h
  obtain ⟨p, js, rfl, hq, hjs, q⟩ := h
  obtain ⟨u, rfl, rx⟩ := vals1 r
  cases rx
  obtain ⟨hS, _, _⟩ := I.hok p _ hq
  obtain ⟨o, tk, ep, ho, hex, hd⟩ := hS
  obtain ⟨hf, hl6, hup, hlt, _⟩ := wkF_all _ (led_mem (ledF X.w)) js hjs
  have line : js.length ≤ sizeLine := by rw [sizeLine_eq]; omega
  refine Calls.call_function_entry kind_sorted plain_sorted entry_sorted (args_sorted1 _) ?_
  show wpAny (model X.prog X.w) X.A.in1 (do checkCount "sorted" 1 1 _; _) _ _ s
  refine wpAny_bind (m := checkCount "sorted" 1 1 _) (wpAny_pure (wpAny_bind (PySem.W.kdu_collect (A := X.A.in1) (src6 (tk := tk) (ep := ep) hjs) (I.ok.hd hc) ⟨o, ho, hex, hd⟩ line fun h' tk' acc hk hacc => ?_)))
  have hl : acc.toList.length = js.length := by rw [Array.length_toList]; exact hacc.1
  refine wpAny_bind (wpAny_newList ?_ (by rw [hl]; exact line))
  have hrs := row_size (w := X.w) (a := p) (js := js) tk ep
  have eacc : acc.toList = (rowF X.w p ep (esF tk js).toArray).toList.map (·.2) := by
    refine List.ext_getElem? fun i => ?_
    rw [List.getElem?_map, Array.getElem?_toList, Array.getElem?_toList]
    cases e : acc[i]? with
    | some v => rw [hacc.2 i v e]
    | none =>
      have : js.length ≤ i := by rw [← hacc.1]; exact Array.getElem?_eq_none_iff.mp e
      rw [Array.getElem?_eq_none (by omega)]
      rfl
  have at1 : (h'.push (seqObj "list" acc.toList.toArray 0)).get? h'.objs.size = some (seqObj "list" acc.toList.toArray 0) := Heap.get?_push_size _ rfl
  have hI : ∃ ns, IntsAre acc.toList ns ∧ ns.Perm (js.map fun (j : Nat) => (j : Int)) := by
    have hpm := (row_perm X.w p ep (esF tk js).toArray).map (·.2)
    rw [← eacc, List.toList_toArray] at hpm
    exact ints_perm (l := js) (tk := tk) (by simpa [esF, Function.comp_def] using hpm)
  obtain ⟨ns, hI, hperm⟩ := hI
  refine wpAny_bind (wpAny_holding (wpAny_call_entry slot_list_sort ⟨_, at1, rfl⟩ entry_list_sort (list_sort_tree at1 hI (by rw [hl]; omega) fun out ns' a1 a2 a3 => ⟨_, rfl, ?_⟩) (args_list_sort _)))
  have I1 : Inv X pins σ H { s with heap := h', toks := tk' } := I.kept hk
  obtain ⟨e, he⟩ := sortedHeap_at (out := out) at1
  have old : ∀ b o, h'.get? b = some o → (sortedHeap (h'.push (seqObj "list" acc.toList.toArray 0)) h'.objs.size acc.toList out).get? b = some o := fun b o z =>
    (sortedHeap_old (Nat.ne_of_lt (Heap.lt_size z)) (Heap.lt_size (Heap.get?_push_of_some _ z))).trans (Heap.get?_push_of_some _ z)
  have hn : H h'.objs.size = none := I1.hok.fresh (Nat.le_refl _)
  have e3 := up_eq hup (a2.trans hperm) a3
  refine wpAny_pure ⟨_, rfl, .ref h'.objs.size, _, I1.laid (a := h'.objs.size) (o := .lst (js.map fun (j : Nat) => V.int j)) (t' := tk') old (Nat.le_refl _) ⟨?_, out.toList, e, ?_, he⟩, rfl, q _ hn⟩
  · rw [List.length_map]; exact line
  · have := vals_ofInts a1
    rw [e3, List.map_map] at this
    exact this
end
end L2
/-! OWN RULES: != of two dicts that tell the same -/
namespace L2
open PySem PySem.Spec PyProof.Rows
section
variable {K : Type} [DecidableEq K]
end
section
variable {prog : Program} {w : World} {A : Around} {E : Value → Shared → Prop} {s : Shared}
end
section
variable {X : Cx}
end
end L2
/-! OWN RULES: min of a list of tuples of ints that rise; a dict comprehension over the keys of a dict of tuples -/
namespace L2
open PySem PySem.Spec PyProof.Rows
section
variable {X : Cx}
end
section
variable {X : Cx} {K : PySem.W.Frag}
end
end L2
/-! OWN RULES: the items of a dict of tuples walked into a pair of names -/
namespace L2
open PySem PySem.Spec PyProof.Rows
/-- a view of the items of the dict at d -/
def ViewI (v d : Addr) : HO := .ext fun h => h.IsItemsView v d
theorem meets_itemsAny (d : Addr) (hd : (d == sysModules) = false) : Meets (Builtin.«dict.items» ⟨[.ref d], []⟩) (fun _ R s => (∃ o es ep, s.heap.get? d = some o ∧ o.ExactDict ∧ o.data = .dict es ep) ∧
    R (.ok (.ret (.ref s.heap.objs.size))) { s with heap := s.heap.push { cls := .type "dict_items", data := .fields #[.ref d] } }) :=
  .of_wp fun prog w A R s h => by
    obtain ⟨hp, g, dr, tk, os⟩ := s
    obtain ⟨⟨o, es, ep, ho, hx, hdd⟩, h⟩ := h
    have hT : Shared.TypeIs ⟨hp, g, dr, tk, os⟩ (.ref d) "dict" := ⟨o, ho, hx.1⟩
    unfold Builtin.«dict.items» Builtin.Dict.showsAll
    wp_walk using wpAny_notOrdered_dict hT
    exact ⟨_, rfl, h⟩
/-- the items of a dict of tuples that is held fast, each a new pair -/
def ItiT (a : Addr) (o : Obj) (kvs : List (List Key × V)) : It where
  go := fun i H => i < kvs.length ∧ H a = some (.frz o (.dT kvs))
  yld := fun i H x H' => ∃ p kv b, H p = none ∧ x = .ref p ∧ kvs[i]? = some kv ∧ H b = some (.tup (kv.1.map kV)) ∧ H' = upd H p (.tup [.ref b, kv.2])
  stop := fun i H => kvs.length ≤ i ∧ H a = some (.frz o (.dT kvs))
section
variable {X : Cx}
theorem mt_itemsT : MtR X "dict.items" (fun x xs H Q => ∃ d kvs, x = .ref d ∧ xs = [] ∧ H d = some (.dT kvs) ∧ ∀ p, H p = none → Q (.ref p) (upd H p (ViewI p d))) := by
  intro pins s σ H x xs v us Q I rx rs h
  obtain ⟨d, kvs, rfl, rfl, hq, q⟩ := h
  cases rx
  cases rs
  obtain ⟨hz, hs, xs, r, o, es, ep, ho, hx, hd, he, nd⟩ := I.hok d _ hq
  refine call_meets PySem.F.slot_dict_items ⟨o, ho, hx.1⟩ PySem.F.entry_dict_items (PySem.F.args_dict_items_1 _) (meets_itemsAny d hs) ⟨⟨o, es, ep, ho, hx, hd⟩, ?_⟩
  refine ⟨.ref s.heap.objs.size, _, I.laid (t' := s.toks) (o := ViewI s.heap.objs.size d) (fun b ob q => Heap.get?_push_of_some _ q) (Nat.le_refl _) ?_, rfl, q _ I.fresh⟩
  refine ⟨⟨_, Heap.get?_push_size _ rfl, rfl, rfl⟩, ⟨_, Heap.get?_push_size _ rfl⟩, fun h1 h2 p k => ?_⟩
  obtain ⟨o, e, c, d⟩ := p
  exact ⟨o, k o e, c, d⟩
end
theorem entry_itemself : entryFor table "dict_itemiterator.__iter__" = some Builtin.«dict_keyiterator.__iter__» := entryFor_alias (id' := "dict_keyiterator.__iter__") (by kernel_rfl) rfl (by decide +kernel) (by kernel_rfl)
theorem itemIter_self {prog : Program} {w : World} {A : Around} {E : Value → Shared → Prop} {s : Shared} {it d : Addr} {i n ep : Nat} {ok ov : Value} {Q : Value → Shared → Prop} (hit : IsItemIter s.heap it d i n ep ok ov) (h : Q (.ref it) s) : wpAny (model prog w) A (pyIter (.ref it)) Q E s := by
  have hT : s.TypeIs (.ref it) "dict_itemiterator" := ⟨_, hit, rfl⟩
  refine wpAny_pyIter_slot hT F.slot_dict_itemiterator_iter (wpAny_call_entry F.slot_dict_itemiterator_iter hT entry_itemself ?_ (F.args_dict_itemiterator_iter_1 _))
  unfold Builtin.«dict_keyiterator.__iter__»
  wp_walk
  exact ⟨_, rfl, "dict_itemiterator", _, hT, F.slot_dict_itemiterator_next.lookup, h⟩
theorem turn_iT {P : Program} {w : World} {K : PySem.W.Frag} {elts : List Expr} {k : Nat} {tpos : Pos} (a it : Addr) (o : Obj) (kvs : List (List Key × V)) (es : Array DictEntry) (ep : Nat) (hd : o.data = .dict es ep) :
    Turn P w K (.Tuple elts k tpos) (ItiT a o kvs) [it] it (fun i h => ∃ ok ov, IsItemIter h it a i kvs.length ep ok ov) where
  mem := by simp
  obj := fun i h st b hb => by
    have e : b = it := by simpa using hb
    subst e
    obtain ⟨ok, ov, st⟩ := st
    exact ⟨_, st, fun v z => by
      have z' : Data.fields _ = Data.cell v := z
      cases z'⟩
  keep := fun i h h' st k => st.imp fun ok => Exists.imp fun ov st => k it (by simp) _ st
  item := by
    intro X hP hw hK hc i pins s σ H E I hf st hg
    subst hP hw hK
    obtain ⟨hi, hq⟩ := hg
    obtain ⟨ho, hz, hs, xs, r, o', es', ep', ho', hx', hd', he, nd⟩ := I.hok a _ hq
    cases Option.some.inj (ho'.symm.trans ho)
    rw [hd] at hd'
    cases hd'
    have hsz : es.size = kvs.length := by
      have e1 := congrArg List.length he
      rw [List.length_map, ← Paired.length r] at e1
      simpa using e1
    obtain ⟨kv, ekv⟩ : ∃ kv, kvs[i]? = some kv := ⟨kvs[i], by simp [hi]⟩
    obtain ⟨x, ex, e1, e2, e3⟩ := paired_get r ekv
    have hlt : i < es.size := by omega
    have hent : es[i] = entryOfKey (tupleKind (mixKind X.prog X.w)) x := by
      have h1 : es.toList[i]? = some es[i] := by simp [hlt]
      rw [he, List.getElem?_map, ex] at h1
      exact (Option.some.inj h1).symm
    have hkey : es[i].key = .ref x.2.1 := by rw [hent]; rfl
    have hval : es[i].val = x.2.2 := by rw [hent]; rfl
    obtain ⟨ok, ov, st⟩ := st
    rw [← hsz] at st
    refine next_item st ho hd hlt fun h' io ht hk => ?_
    rw [hkey, hval] at ht
    refine ⟨_, rfl, wpAny_letOwnedTupleGo_items io fun h'' it' sb => ?_⟩
    have ne : s.heap.objs.size ≠ it := Ne.symm (Nat.ne_of_lt (Heap.lt_size st))
    have ht'' := (sb.2 s.heap.objs.size ne).trans ht
    have hb : H x.2.1 = some (.tup (kv.1.map kV)) := by rw [e1]; rw [e1] at e2; exact e2
    refine ⟨.ref s.heap.objs.size, upd H s.heap.objs.size (.tup [.ref x.2.1, kv.2]), ?_, rfl, ⟨_, kv, x.2.1, I.fresh, rfl, ekv, hb, rfl⟩, ⟨_, _, by rw [← hsz]; exact it'⟩, fun b hb' => ?_⟩
    · refine I.turnedNew (ch := [it]) (t' := s.toks) hf (fun b o hb q => ?_) (Nat.le_refl _) ⟨(by show 2 ≤ sizeLine; decide), [.ref x.2.1, x.2.2], .cons rfl (.cons e3 .nil), _, ht'', rfl, _, rfl⟩
      have hb1 : b ≠ it := fun z => hb (by simp [z])
      exact (sb.2 b hb1).trans (hk b o hb1 q)
    · have e : b = it := by simpa using hb'
      subst e
      rw [upd_ne (Ne.symm ne)]
      exact (hf b (by simp)).1
  done := by
    intro X hP hw hK hc i pins s σ H E I hf st hg
    subst hP hw hK
    obtain ⟨hi, hq⟩ := hg
    obtain ⟨ho, hz, hs, xs, r, o', es', ep', ho', hx', hd', he, nd⟩ := I.hok a _ hq
    cases Option.some.inj (ho'.symm.trans ho)
    rw [hd] at hd'
    cases hd'
    have hsz : es.size = kvs.length := by
      have e1 := congrArg List.length he
      rw [List.length_map, ← Paired.length r] at e1
      simpa using e1
    obtain ⟨ok, ov, st⟩ := st
    rw [← hsz] at st
    obtain ⟨f0, f1, f2, f3, f4, f5⟩ := hf it (by simp)
    exact next_item_end (I.ok.hd hc) st ho hd (by omega) fun h' eb => ⟨rfl, I.turned (t' := s.toks) (fun b o hb e => eb b o hb e) f0 f1 f3 f4 f5⟩
  self := fun _ _ _ _ _ ⟨_, _, st⟩ h => itemIter_self st h
def iIt (tl : TE) : TI := fun σ H R => tl σ H fun x H1 => ∃ v a kvs, x = .ref v ∧ H1 v = some (ViewI v a) ∧ H1 a = some (.dT kvs) ∧ ∀ o, R (ItiT a o kvs) (upd H1 a (.frz o (.dT kvs)))
theorem pi_iT {X : Cx} {elts : List Expr} {k : Nat} {tpos : Pos} {l : Expr} {tl : TE} (hl : PE X l tl) : PI X (.Tuple elts k tpos) l (iIt tl) := by
  intro pins s σ H R I h
  refine thn (hl pins s σ H _ I h) fun v s1 ⟨x, H1, I1, r1, q1⟩ => ?_
  obtain ⟨v, a, kvs, e, hv, hq, q⟩ := q1
  subst e
  cases r1
  obtain ⟨hz, hs, xs, r, o, es, ep, ho, hx, hd, he, nd⟩ := I1.hok a _ hq
  have hsz : es.size = kvs.length := by
    have e1 := congrArg List.length he
    rw [List.length_map, ← Paired.length r] at e1
    simpa using e1
  obtain ⟨hvv, _, _⟩ := (show ObjOk X.prog X.w H1 s1.heap v (ViewI v a) from I1.hok v _ hv)
  refine iter_item hvv ho hd ?_
  have I2 := I1.freeze (show Mut (some (HO.dT kvs)) from True.intro) hq ho
  have hn : upd H1 a (.frz o (.dT kvs)) s1.heap.objs.size = none := I2.hok.fresh (Nat.le_refl _)
  refine ⟨s1.heap.objs.size, [s1.heap.objs.size], _, _, _, rfl, I2.kept (t' := s1.toks) fun b o e => Heap.get?_push_of_some _ e, turn_iT a _ o kvs es ep hd, ⟨.none, .none, ?_⟩, fun b hb => ?_, q o⟩
  · rw [← hsz]
    exact Heap.get?_push_size _ rfl
  · have e : b = s1.heap.objs.size := by simpa using hb
    subst e
    exact I2.fpOk (Nat.le_refl _) hn
/-- a list comprehension over d.items() -/
theorem lc_iT {a : Addr} {o : Obj} {kvs : List (List Key × V)} {g : TG} {ti : TT} {te : TE} {σ0 : St} {H0 : Hp} {Q : VK} (Pv : Nat → List V → St → Hp → Prop) (h0 : Pv 0 [] σ0 H0)
    (hl : ∀ i ys σ H, i ≤ kvs.length → Pv i ys σ H → H a = some (.frz o (.dT kvs)) ∧ ys.length ≤ sizeLine)
    (hs : ∀ i kv b p ys σ H, kvs[i]? = some kv → H b = some (.tup (kv.1.map kV)) → H p = none → Pv i ys σ H → g (.ref p) σ (upd H p (.tup [.ref b, kv.2])) fun σ2 H2 => ti σ2 H2 fun c H3 => if c = true then te σ2 H3 fun y H4 => Pv (i + 1) (ys ++ [y]) σ2 H4 else Pv (i + 1) ys σ2 H3)
    (hd : ∀ ys σ H, Pv kvs.length ys σ H → ∀ p, H p = none → Q (.ref p) (upd H p (.lst ys))) :
    ∃ W : Nat → Nat → List V → St → Hp → Prop, (∃ m, W 0 m [] σ0 H0) ∧ ∀ i m ys σ H, W i m ys σ H →
      ys.length ≤ sizeLine ∧ (((ItiT a o kvs).stop i H ∧ lcEnd Q ys H) ∨
        ((ItiT a o kvs).go i H ∧ ∃ N : List V → St → Hp → Prop, (∀ ys' σ' H', N ys' σ' H' → ∃ m', m' < m ∧ W (i + 1) m' ys' σ' H') ∧
          ∀ x H', (ItiT a o kvs).yld i H x H' → g x σ H' fun σ2 H2 => ti σ2 H2 fun b H3 => if b = true then te σ2 H3 fun y H4 => N (ys ++ [y]) σ2 H4 else N ys σ2 H3)) := by
  refine ⟨fun i m ys σ H => m = kvs.length - i ∧ i ≤ kvs.length ∧ Pv i ys σ H, ⟨kvs.length, by simp, Nat.zero_le _, h0⟩, ?_⟩
  rintro i m ys σ H ⟨rfl, hi, p⟩
  obtain ⟨q, hz⟩ := hl i ys σ H hi p
  refine ⟨hz, ?_⟩
  by_cases hlt : i < kvs.length
  · refine .inr ⟨⟨hlt, q⟩, Pv (i + 1), fun ys' σ' H' p' => ⟨kvs.length - (i + 1), by omega, rfl, hlt, p'⟩, fun x H' y => ?_⟩
    obtain ⟨c, kv, b, hc, rfl, ek, eb, rfl⟩ := y
    exact hs i kv b c ys σ H ek eb hc p
  · have e : i = kvs.length := by omega
    subst e
    exact .inl ⟨⟨Nat.le_refl _, q⟩, hd ys σ H p⟩
theorem op_in_seqK {X : Cx} {K : PySem.W.Frag} (hK : X.K = K) : OpR X (compareOp .In) (rIn K false) := by
  subst hK
  exact op_in_seq
end L2
/-! OWN RULES: isinstance(x, (list, tuple)); a walk of either -/
namespace L2
open PySem PySem.Spec PyProof.Rows
section
variable {X : Cx}
/-- isinstance(x, (list, tuple)), x one of them -/
theorem call_isSeq : CallR X (.builtin "isinstance") (fun xs H Q => ∃ x q, xs = [.ref x, .ref q] ∧ H q = some (.tup [.ty "list", .ty "tuple"]) ∧ ((∃ ys, SqL X.K H x ys) ∨ ∃ ys, SqT X.K H x ys) ∧ Q (.bl true) H) := by
  intro pins s σ H xs us Q I r h
  obtain ⟨x, q, rfl, hq, hx, k⟩ := h
  obtain ⟨u, w, rfl, r1, r2⟩ := vals2 r
  cases r1
  cases r2
  obtain ⟨ts, rt, ht, _⟩ := I.tuple (SqT.of hq)
  obtain ⟨a, b, rfl, ra, rb⟩ := vals2 rt
  obtain rfl : a = Value.type "list" := ra
  obtain rfl : b = Value.type "tuple" := rb
  obtain ⟨⟨c, dd, dt, sl⟩, ho, hc, n, hd⟩ := ht
  simp only at hc hd
  subst hc hd
  have fin : ∀ tk, EP X pins σ Q (.bool true) { s with toks := tk } := fun tk => ⟨.bl true, H, I.tok tk, rfl, k⟩
  rcases hx with ⟨ys, hy⟩ | ⟨ys, hy⟩
  · obtain ⟨its, _, pl, _⟩ := I.list hy
    obtain ⟨o, ho2, hc2, _⟩ := pl.isList
    exact PySem.W.kia_tup (its := [.type "list", .type "tuple"]) PySem.W.kitx_list I.kIn ⟨o, ho2, hc2⟩ ho rfl (fun z => nomatch z) fin
  · obtain ⟨its, _, ⟨o, ho2, hc2, _⟩, _⟩ := I.tuple hy
    exact PySem.W.kia_tup (its := [.type "list", .type "tuple"]) PySem.W.kitx_tuple I.kIn ⟨o, ho2, hc2⟩ ho rfl (fun z => nomatch z) fin
/-- a walk that goes by one rule or by another -/
def iOr (a b : TI) : TI := fun σ H R => a σ H R ∨ b σ H R
theorem pi_or {tg l : Expr} {a b : TI} (h1 : PI X tg l a) (h2 : PI X tg l b) : PI X tg l (iOr a b) := by
  intro pins s σ H R I h
  rcases h with h | h
  · exact h1 pins s σ H R I h
  · exact h2 pins s σ H R I h
theorem pi_seq {tg l : Expr} {tl : TE} (hl : PE X l tl) : PI X tg l (iOr (iList X.K tl) (iTup X.K tl)) := pi_or (pi_list hl) (pi_tup hl)
end
/-- a value's truth, by a name -/
def tTruth (K : PySem.W.Frag) (t : TE) : TT := fun σ H Q => t σ H fun x H' => ∃ k, TruV K x H' k ∧ Q k H'
theorem pt_truthK {X : Cx} {K : PySem.W.Frag} {a : Expr} {ta : TE} (hK : X.K = K) (ha : PE X a ta) (he : ∀ whole, isTrue a X.env whole = (do let v ← whole; standAt a.pos; holding [v] (truthy v))) :
    PT X a (tTruth K ta) := by
  subst hK
  exact pt_truth ha he
end L2
/-! OWN RULES: C(e, k = v, ..) of an own class; a method with two or three keywords -/
namespace L2
open PySem PySem.Spec PyProof.Rows
def kb23 {α : Type} : List α → List α → List α
  | [u0, u1], [w0, w1, w2] => [u0, u1, w0, w1, w2]
  | _, _ => []
def kb22d {α : Type} (d : α) : List α → List α → List α
  | [u0, u1], [w0, w1] => [u0, u1, w0, w1, d]
  | _, _ => []
theorem kb_rel23 {vs : List V} {us : List Value} {zs : List V} {ws : List Value} (r1 : Vals vs us) (r2 : Vals zs ws) : Vals (kb23 vs zs) (kb23 us ws) := by
  rcases r1 with _ | ⟨a, _ | ⟨a2, _ | ⟨_, _⟩⟩⟩ <;> rcases r2 with _ | ⟨b, _ | ⟨c, _ | ⟨d, _ | ⟨_, _⟩⟩⟩⟩
  all_goals first | exact .nil | exact .cons a (.cons a2 (.cons b (.cons c (.cons d .nil))))
theorem kb_rel22d {x : V} {u : Value} (r : RelV x u) {vs : List V} {us : List Value} {zs : List V} {ws : List Value} (r1 : Vals vs us) (r2 : Vals zs ws) : Vals (kb22d x vs zs) (kb22d u us ws) := by
  rcases r1 with _ | ⟨a, _ | ⟨a2, _ | ⟨_, _⟩⟩⟩ <;> rcases r2 with _ | ⟨b, _ | ⟨c, _ | ⟨_, _⟩⟩⟩
  all_goals first | exact .nil | exact .cons a (.cons a2 (.cons b (.cons c (.cons r .nil))))
theorem bd_kb22d {K : PySem.W.Frag} {fd : FuncData} {p p2 k1 k2 k3 : Str} {kd : Addr} {v : Value} {x : V} (r : RelV x v) (e : PySem.W.nsIn K kd k3 = some (some v)) (hp : fd.params.posonlyargs = []) (ha : fd.params.args.map (·.arg) = [p, p2]) (hv : fd.params.vararg = none) (hk : fd.params.kwonlyargs.map (·.arg) = [k1, k2, k3])
    (hkw : fd.params.kwarg = none) (hd : fd.defaults = .none) (hkd : fd.kwdefaults = .ref kd) (d0 : (p2 == p) = false) (d1 : (k1 == p) = false) (d2 : (k2 == p) = false) (d3 : (k3 == p) = false) (f1 : (k1 == p2) = false) (f2 : (k2 == p2) = false) (f3 : (k3 == p2) = false) (d4 : (k2 == k1) = false) (d5 : (k3 == k1) = false) (d6 : (k3 == k2) = false) :
    KBinds K fd [p, p2, k1, k2, k3] [k1, k2] (kb22d v) (kb22d x) := by
  refine ⟨fun s us ws KX hl => ?_, fun r1 r2 => kb_rel22d r r1 r2⟩
  match us, ws, hl with
  | [u, u'], [w1, w2], _ =>
  intro Mo A E Q hq
  have L := PySem.W.looks_nsIn (M := Mo) KX e
  have sw : ∀ {a b : Str}, (a == b) = false → (b == a) = false := fun {a b} h => by rw [beq_eq_false_iff_ne] at *; exact fun z => h z.symm
  have dp1 := sw d1
  have dp2 := sw d2
  have d41 := sw d4
  have fp1 := sw f1
  have fp2 := sw f2
  have d00 := sw d0
  unfold bindArgs
  have hz : seqItems? Value.none = pure none := rfl
  simp only [hp, ha, hv, hk, hkw, hd, hkd, hz, List.map_nil, List.nil_append, List.length_cons, List.length_nil, List.zip_cons_cons, List.zip_nil_right, List.zip_nil_left, pure_bind, Option.getD_none, List.forIn_nil]
  simp [List.lookup_cons, d0, d1, d2, d3, d4, d5, d6, dp1, dp2, d41, f1, f2, f3, fp1, fp2, d00]
  refine wpAny_bind (L A _ E s (fun _ _ h => h) ?_)
  simp [List.lookup_cons, d0, d1, d2, d3, d4, d5, d6, dp1, dp2, d41, f1, f2, f3, fp1, fp2, d00]
  exact wpAny_pure hq
section
variable {X : Cx} {CX : CXT} {k : Nat} {C f : Addr} {fd : FuncData} {ps ks : List Str} {sp : Sp} {E : XK} {g : List Value → List Value → List Value} {gV : List V → List V → List V} {x : Str} {p pos : Pos} {e : Expr} {es : List Expr} {kws : List Keyword} {t tk : TA}
theorem run_makeK {pins : List (Addr × Obj)} {σ : St} {H : Hp} {s : Shared} {Q : VK} {us ws : List Value} {vs zs : List V} (M : Mk X.K C f) (F : FnOk X.prog X.w X.K X.mg X.base CX k f fd ps sp) (hr : Room (k + 1) X.A) (hb : KBinds X.K fd ps ks g gV)
    (hx : Passes CX X E) (I : Inv X pins σ H s) (r : Vals vs us) (rz : Vals zs ws)
    (h : ∀ x dx, H x = none → H dx = none → dx ≠ x → sp (gV (.ref x :: vs) zs) (upd (upd H dx (.own x)) x (.ins C dx [])) (fun v H2 => v = .non ∧ Q (.ref x) H2) E) :
    wpAny (model X.prog X.w) X.A (call (.ref C) us (ks.zip ws)) (EP X pins σ Q) X.xe s := by
  have hq := h (s.heap.objs.size + 1) s.heap.objs.size (I.hok.fresh (Nat.le_succ _)) (I.hok.fresh (Nat.le_refl _)) (Nat.ne_of_lt (Nat.lt_succ_self _))
  have I2 := Inv.made (C := C) I
  have r2 := hb.rel (Paired.cons (show RelV (V.ref (s.heap.objs.size + 1)) (Value.ref (s.heap.objs.size + 1)) from rfl) r) rz
  have hl : (g (Value.ref (s.heap.objs.size + 1) :: us) ws).length = ps.length := by
    rw [← Paired.length r2]
    exact F.len _ _ _ _ hq
  refine wpAny_call (make_map (f := f) I.kIn M.makes M.init (beq_iff_eq.mp M.fn) (codeAny_mono (F.run _ X.stack _ _ ⟨Value.ref (s.heap.objs.size + 1) :: us, ks.zip ws⟩ _ _ _ E (hr.make C us (ks.zip ws))
    (I2.env0.make C us (ks.zip ws)) (hb.to _ _ _ I2.kIn hl) r2 hq) fun r s' hq' => ?_))
  cases r with
  | error e => exact hx pins σ _ _ e s' I2 hq'
  | ok fl =>
    cases fl with
    | ret u =>
      obtain ⟨v, H', I3, rv, ev, q3⟩ := I2.after hq'
      subst ev
      exact ⟨rv, ⟨V.ref (s.heap.objs.size + 1), H', I3, rfl, q3⟩⟩
    | next => exact False.elim hq'
    | brk => exact False.elim hq'
    | cont => exact False.elim hq'
def tMakeK (C : Addr) (sp : Sp) (gV : List V → List V → List V) (E : XK) (t tk : TA) : TE := fun σ H Q => t σ H fun vs H1 => tk σ H1 fun zs H2 => ∀ x dx, H2 x = none → H2 dx = none → dx ≠ x → sp (gV (.ref x :: vs) zs) (upd (upd H2 dx (.own x)) x (.ins C dx [])) (fun v H3 => v = .non ∧ Q (.ref x) H3) E
/-- C(e, .., k = v, ..) -/
theorem pe_makeK (M : Mk X.K C f) (F : FnOk X.prog X.w X.K X.mg X.base CX k f fd ps sp) (hr : Room (k + 1) X.A) (hg : Gl X x) (hm : X.mg x = some (.ref C)) (hb : KBinds X.K fd ps ks g gV) (hx : Passes CX X E)
    (ha : PA X (e :: es) t) (hkw : PK X kws tk) (hall : (backToKw pos (keywordEach kws X.env)).all (·.1.isSome) = true := by rfl) (hks : (backToKw pos (keywordEach kws X.env)).filterMap (·.1) = ks := by rfl)
    (hdb : (x == ("__debug__" : Str)) = false := by decide) (he : starEach (e :: es) X.env = (false, eval e X.env) :: starEach es X.env := by rfl)
    (hpl : ((backTo pos (starEach (e :: es) X.env)).any (·.1) || (backToKw pos (keywordEach kws X.env)).any (·.1.isNone)) = false := by rfl) :
    PE X (.Call (.Name x p) (e :: es) kws pos) (tMakeK C sp gV E t tk) := by
  intro pins s σ H Q I h
  refine wpAny_Call_Name_kw (ld_glob I hg hm ?_ hdb)
  refine PySem.W.callWith_KW (h₀ := X.base) I.ok.mod.kin M.kp hall (thn (ha pos pins s σ H _ I h) fun us s1 ⟨vs, H1, I1, r, q⟩ => ?_) hpl he
  refine thn (hkw pos pins s1 σ H1 _ I1 q) fun ws s2 ⟨zs, H2, I2, rz, q2⟩ => ⟨I2.kIn, ?_⟩
  rw [hks]
  exact run_makeK M F hr hb hx I2 r rz q2
end
section
variable {X : Cx}
/-- len(s), s a set of ints below 6 -/
theorem call_lenS : CallR X (.builtin "len") (fun xs H Q => ∃ (p : Addr) (js : List Nat), xs = [.ref p] ∧ H p = some (IsSet X.w p js) ∧ js ∈ subsF 6 ∧ Q (.int js.length) H) := by
  intro pins s σ H xs us Q I r h
  obtain ⟨p, js, rfl, hq, hjs, q⟩ := h
  obtain ⟨u, rfl, rx⟩ := vals1 r
  cases rx
  obtain ⟨hS, _, _⟩ := I.hok p _ hq
  obtain ⟨o, tk, ep, ho, hex, hd⟩ := hS
  obtain ⟨hf, hl6, _⟩ := wkF_all _ (led_mem (ledF X.w)) js hjs
  have hz := esF_len tk js
  refine call_len_set ho hex hd (by rw [hz]; exact hf) (by rw [hz]; omega) ?_
  rw [hz]
  exact ⟨.int js.length, H, I.tok _, ⟨_, rfl⟩, q⟩
end
section
variable {X : Cx} {K : PySem.W.Frag}
theorem op_notIn_seqK (hK : X.K = K) : OpR X (compareOp .NotIn) (rIn K true) := by
  subst hK
  exact op_notIn_seq
theorem op_neDK (hK : X.K = K) (hu : X.A.units + 64 < cLine) : OpR X (compareOp .NotEq) (rNeD K) := by
  subst hK
  exact op_neD hu
theorem call_len_seqK (hK : X.K = K) : CallR X (.builtin "len") (fun xs H Q => ∃ p ys, xs = [V.ref p] ∧ (SqL K H p ys ∨ SqT K H p ys) ∧ Q (V.int ys.length) H) := by
  subst hK
  exact call_len_seq
end
/-- the keys of a dict of tuples that is held fast already -/
def iDtf (tl : TE) : TI := fun σ H R => tl σ H fun x H1 => ∃ a o kvs, x = .ref a ∧ H1 a = some (.frz o (.dT kvs)) ∧ R (ItdT a o kvs) H1
theorem pi_dTf {X : Cx} {tg l : Expr} {tl : TE} (hl : PE X l tl) : PI X tg l (iDtf tl) := by
  intro pins s σ H R I h
  refine thn (hl pins s σ H _ I h) fun v s1 ⟨x, H1, I1, r1, q1⟩ => ?_
  obtain ⟨a, o, kvs, e, hq, q⟩ := q1
  subst e
  cases r1
  obtain ⟨ho, hz, hs, xs, r, o', es, ep, ho', hx, hd, he, nd⟩ := I1.hok a _ hq
  cases Option.some.inj (ho'.symm.trans ho)
  have hsz : es.size = kvs.length := by
    have e1 := congrArg List.length he
    rw [List.length_map, ← Paired.length r] at e1
    simpa using e1
  refine iter_key hs ho hx hd ?_
  have hn : H1 s1.heap.objs.size = none := I1.hok.fresh (Nat.le_refl _)
  refine ⟨s1.heap.objs.size, [s1.heap.objs.size], _, _, _, rfl, I1.kept (t' := s1.toks) fun b o e => Heap.get?_push_of_some _ e, turn_dT a _ o kvs es ep hd, ?_, fun b hb => ?_, q⟩
  · rw [← hsz]
    exact ⟨_, Heap.get?_push_size _ rfl, rfl, rfl⟩
  · have e : b = s1.heap.objs.size := by simpa using hb
    subst e
    exact I1.fpOk (Nat.le_refl _) hn
/-- a statement's walk over such keys -/
theorem for_dT {a : Addr} {o : Obj} {kvs : List (List Key × V)} {g : TG} {tb : TS} {D : Ends} {σ : St} {H : Hp} (Pv : Nat → St → Hp → Prop) (h0 : Pv 0 σ H) (hl : ∀ i σ H, i ≤ kvs.length → Pv i σ H → H a = some (.frz o (.dT kvs)))
    (hs : ∀ i kv b σ H, kvs[i]? = some kv → H b = some (.tup (kv.1.map kV)) → Pv i σ H → g (.ref b) σ H fun σ2 H2 => tb { D with nx := Pv (i + 1), ct := Pv (i + 1), bk := D.nx } σ2 H2) (hd : ∀ σ H, Pv kvs.length σ H → D.nx σ H) :
    ∃ W : Nat → Nat → St → Hp → Prop, (∃ m, W 0 m σ H) ∧ ∀ i m σ H, W i m σ H →
      ((ItdT a o kvs).stop i H ∧ D.nx σ H) ∨ ((ItdT a o kvs).go i H ∧ ∃ N : St → Hp → Prop, (∀ σ' H', N σ' H' → ∃ m', m' < m ∧ W (i + 1) m' σ' H') ∧ ∀ x H', (ItdT a o kvs).yld i H x H' → g x σ H' fun σ2 H2 => tb { D with nx := N, ct := N, bk := D.nx } σ2 H2) := by
  refine ⟨fun i m σ H => m = kvs.length - i ∧ i ≤ kvs.length ∧ Pv i σ H, ⟨kvs.length, by simp, Nat.zero_le _, h0⟩, ?_⟩
  rintro i m σ H ⟨rfl, hi, p⟩
  have q := hl i σ H hi p
  by_cases hlt : i < kvs.length
  · refine .inr ⟨⟨hlt, q⟩, Pv (i + 1), fun σ' H' p' => ⟨kvs.length - (i + 1), by omega, rfl, hlt, p'⟩, fun x H' y => ?_⟩
    obtain ⟨e, kv, b, ek, ex, eb⟩ := y
    subst e ex
    exact hs i kv b σ _ ek eb p
  · have e : i = kvs.length := by omega
    subst e
    exact .inl ⟨⟨Nat.le_refl _, q⟩, hd σ H p⟩
end L2

set_option Elab.async false
set_option linter.all false
set_option maxRecDepth 100000
namespace M
structure O where
  p : Int
  n : Int
  g : Int
  m : Int
  deriving DecidableEq
def isOrd (q : Int) (o : O) : Bool := decide (0 ≤ o.p ∧ o.p ≤ q - 1 ∧ 0 ≤ o.g ∧ o.g ≤ q - 1 ∧ o.p ≠ o.g ∧ 0 ≤ o.n ∧ o.n ≤ 99 ∧ 1 ≤ o.m ∧ o.m ≤ 1000)
theorem isOrd_iff {q : Int} {o : O} : isOrd q o = true ↔ (0 ≤ o.p ∧ o.p ≤ q - 1 ∧ 0 ≤ o.g ∧ o.g ≤ q - 1 ∧ o.p ≠ o.g ∧ 0 ≤ o.n ∧ o.n ≤ 99 ∧ 1 ≤ o.m ∧ o.m ≤ 1000) := by
  unfold isOrd
  rw [decide_eq_true_iff]
/-- take k to place i of a list -/
def addAt (s : List Int) (i : Nat) (k : Int) : List Int := s.set i (s.getD i 0 + k)
def step (s : List Int) (o : O) : List Int := addAt (addAt s o.p.toNat (-o.m)) o.g.toNat o.m
end M

namespace M
open PySem L2
theorem pa_2 {X : Cx} {e0 e1 : Expr} {t0 t1 : TE} (h0 : PE X e0 t0) (h1 : PE X e1 t1) (s0 : isStar e0 = false := by rfl) (s1 : isStar e1 = false := by rfl) : PA X [e0, e1] (tCons t0 (tCons t1 tNil)) := by
  refine pa_more h0 ?_ s0
  refine pa_more h1 ?_ s1
  exact pa_nil
theorem pa_3 {X : Cx} {e0 e1 e2 : Expr} {t0 t1 t2 : TE} (h0 : PE X e0 t0) (h1 : PE X e1 t1) (h2 : PE X e2 t2) (s0 : isStar e0 = false := by rfl) (s1 : isStar e1 = false := by rfl) (s2 : isStar e2 = false := by rfl) : PA X [e0, e1, e2] (tCons t0 (tCons t1 (tCons t2 tNil))) := by
  refine pa_more h0 ?_ s0
  refine pa_more h1 ?_ s1
  refine pa_more h2 ?_ s2
  exact pa_nil
theorem pa_4 {X : Cx} {e0 e1 e2 e3 : Expr} {t0 t1 t2 t3 : TE} (h0 : PE X e0 t0) (h1 : PE X e1 t1) (h2 : PE X e2 t2) (h3 : PE X e3 t3) (s0 : isStar e0 = false := by rfl) (s1 : isStar e1 = false := by rfl) (s2 : isStar e2 = false := by rfl) (s3 : isStar e3 = false := by rfl) : PA X [e0, e1, e2, e3] (tCons t0 (tCons t1 (tCons t2 (tCons t3 tNil)))) := by
  refine pa_more h0 ?_ s0
  refine pa_more h1 ?_ s1
  refine pa_more h2 ?_ s2
  refine pa_more h3 ?_ s3
  exact pa_nil
def top (i : Nat) : Stmt := PySem.Challenge.pw_manypurses_k22_whole_joints.main.body.getD i (.Pass ⟨0, 0, 0, 0⟩)
abbrev s_is_whole : Stmt := top 1
abbrev s_is_between : Stmt := top 2
abbrev s_is_order : Stmt := top 15
abbrev s_place_of : Stmt := top 16
abbrev s_clash : Stmt := top 17
abbrev s_are_rising : Stmt := top 3
abbrev s_is_rising_row : Stmt := top 4
abbrev s_clashing_places : Stmt := top 18
abbrev s_check_owners : Stmt := top 23
abbrev s_check_order : Stmt := top 24
abbrev s_Board___init__ : Stmt := inClass (top 20) 0
abbrev s_Board_houses_for : Stmt := inClass (top 20) 2
abbrev s_Board_is_carried : Stmt := inClass (top 20) 4
abbrev s_Board_put : Stmt := inClass (top 20) 1
abbrev s_Board_carried : Stmt := inClass (top 20) 5
abbrev s_Board_things_of : Stmt := inClass (top 20) 3
abbrev s_Joint___init__ : Stmt := inClass (top 25) 0
abbrev s_Joint_has_other : Stmt := inClass (top 25) 2
abbrev s_Joint_sign : Stmt := inClass (top 25) 1
abbrev s_Joint_signed : Stmt := inClass (top 25) 3
abbrev s_Joint_ready : Stmt := inClass (top 25) 4
abbrev s_Joint_is_sure : Stmt := inClass (top 25) 5
abbrev s_Joint_two_faced : Stmt := inClass (top 25) 6
abbrev s__law_town : Stmt := top 27
abbrev s__law_draw : Stmt := top 28
abbrev s__law_pick : Stmt := top 29
abbrev s__law_is : Stmt := top 30
abbrev s__law_some : Stmt := top 31
abbrev s__law_faces : Stmt := top 32
abbrev s_law : Stmt := top 33
theorem sc_is_whole : FnScope ["thing"] ["thing"] (defScope s_is_whole) := ⟨rfl, rfl, rfl, by decide +kernel, rfl, by decide +kernel, by decide +kernel⟩
theorem sc_is_between : FnScope ["thing", "low", "high"] ["thing", "low", "high"] (defScope s_is_between) := ⟨rfl, rfl, rfl, by decide +kernel, rfl, by decide +kernel, by decide +kernel⟩
theorem sc_is_order : FnScope ["thing", "purses", "purse", "number", "goal", "much"] ["thing", "purses"] (defScope s_is_order) := ⟨rfl, rfl, rfl, by decide +kernel, rfl, by decide +kernel, by decide +kernel⟩
theorem sc_place_of : FnScope ["order"] ["order"] (defScope s_place_of) := ⟨rfl, rfl, rfl, by decide +kernel, rfl, by decide +kernel, by decide +kernel⟩
theorem sc_clash : FnScope ["one", "other"] ["one", "other"] (defScope s_clash) := ⟨rfl, rfl, rfl, by decide +kernel, rfl, by decide +kernel, by decide +kernel⟩
theorem sc_are_rising : FnScope ["things", "bound", "least", "thing"] ["things", "bound"] (defScope s_are_rising) := ⟨rfl, rfl, rfl, by decide +kernel, rfl, by decide +kernel, by decide +kernel⟩
theorem sc_is_rising_row : FnScope ["thing", "bound"] ["thing", "bound"] (defScope s_is_rising_row) := ⟨rfl, rfl, rfl, by decide +kernel, rfl, by decide +kernel, by decide +kernel⟩
theorem sc_clashing_places : FnScope ["orders", "firsts", "found", "order"] ["orders"] (defScope s_clashing_places) := ⟨rfl, rfl, rfl, by decide +kernel, rfl, by decide +kernel, by decide +kernel⟩
theorem sc_check_owners : FnScope ["owners", "need", "cheats"] ["owners", "need", "cheats"] (defScope s_check_owners) := ⟨rfl, rfl, rfl, by decide +kernel, rfl, by decide +kernel, by decide +kernel⟩
theorem sc_check_order : FnScope ["order"] ["order"] (defScope s_check_order) := ⟨rfl, rfl, rfl, by decide +kernel, rfl, by decide +kernel, by decide +kernel⟩
theorem sc_Board___init__ : FnScope ["self", "enough"] ["self", "enough"] (defScope s_Board___init__) := ⟨rfl, rfl, rfl, by decide +kernel, rfl, by decide +kernel, by decide +kernel⟩
theorem sc_Board_houses_for : FnScope ["self", "thing"] ["self", "thing"] (defScope s_Board_houses_for) := ⟨rfl, rfl, rfl, by decide +kernel, rfl, by decide +kernel, by decide +kernel⟩
theorem sc_Board_is_carried : FnScope ["self", "thing"] ["self", "thing"] (defScope s_Board_is_carried) := ⟨rfl, rfl, rfl, by decide +kernel, rfl, by decide +kernel, by decide +kernel⟩
theorem sc_Board_put : FnScope ["self", "house", "thing", "houses"] ["self", "house", "thing"] (defScope s_Board_put) := ⟨rfl, rfl, rfl, by decide +kernel, rfl, by decide +kernel, by decide +kernel⟩
theorem sc_Board_carried : FnScope ["self"] ["self"] (defScope s_Board_carried) := ⟨rfl, rfl, rfl, by decide +kernel, rfl, by decide +kernel, by decide +kernel⟩
theorem sc_Board_things_of : FnScope ["self", "house"] ["self", "house"] (defScope s_Board_things_of) := ⟨rfl, rfl, rfl, by decide +kernel, rfl, by decide +kernel, by decide +kernel⟩
theorem sc_Joint___init__ : FnScope ["self", "purse", "owners", "need", "cheats"] ["self", "purse", "owners", "need", "cheats"] (defScope s_Joint___init__) := ⟨rfl, rfl, rfl, by decide +kernel, rfl, by decide +kernel, by decide +kernel⟩
theorem sc_Joint_has_other : FnScope ["self", "owner", "order"] ["self", "owner", "order"] (defScope s_Joint_has_other) := ⟨rfl, rfl, rfl, by decide +kernel, rfl, by decide +kernel, by decide +kernel⟩
theorem sc_Joint_sign : FnScope ["self", "owner", "order"] ["self", "owner", "order"] (defScope s_Joint_sign) := ⟨rfl, rfl, rfl, by decide +kernel, rfl, by decide +kernel, by decide +kernel⟩
theorem sc_Joint_signed : FnScope ["self", "order"] ["self", "order"] (defScope s_Joint_signed) := ⟨rfl, rfl, rfl, by decide +kernel, rfl, by decide +kernel, by decide +kernel⟩
theorem sc_Joint_ready : FnScope ["self"] ["self"] (defScope s_Joint_ready) := ⟨rfl, rfl, rfl, by decide +kernel, rfl, by decide +kernel, by decide +kernel⟩
theorem sc_Joint_is_sure : FnScope ["self", "honest_needed"] ["self"] (defScope s_Joint_is_sure) := ⟨rfl, rfl, rfl, by decide +kernel, rfl, by decide +kernel, by decide +kernel⟩
theorem sc_Joint_two_faced : FnScope ["self"] ["self"] (defScope s_Joint_two_faced) := ⟨rfl, rfl, rfl, by decide +kernel, rfl, by decide +kernel, by decide +kernel⟩
theorem sc__law_town : FnScope ["_law_script"] ["_law_script"] (defScope s__law_town) := ⟨rfl, rfl, rfl, by decide +kernel, rfl, by decide +kernel, by decide +kernel⟩
theorem sc__law_draw : FnScope ["_law_town_here", "_law_many", "_law_row", "_law_at", "_law_cell", "_law_mixed"] ["_law_town_here", "_law_many"] (defScope s__law_draw) := ⟨rfl, rfl, rfl, by decide +kernel, rfl, by decide +kernel, by decide +kernel⟩
theorem sc__law_pick : FnScope ["_law_town_here", "_law_some_here"] ["_law_town_here", "_law_some_here"] (defScope s__law_pick) := ⟨rfl, rfl, rfl, by decide +kernel, rfl, by decide +kernel, by decide +kernel⟩
theorem sc__law_is : FnScope ["_law_told", "_law_due"] ["_law_told", "_law_due"] (defScope s__law_is) := ⟨rfl, rfl, rfl, by decide +kernel, rfl, by decide +kernel, by decide +kernel⟩
theorem sc__law_some : FnScope ["_law_town_here", "_law_size", "_law_most", "_law_found", "_law_one"] ["_law_town_here", "_law_size", "_law_most"] (defScope s__law_some) := ⟨rfl, rfl, rfl, by decide +kernel, rfl, by decide +kernel, by decide +kernel⟩
theorem sc__law_faces : FnScope ["_law_signed", "_law_found", "_law_one", "_law_two"] ["_law_signed"] (defScope s__law_faces) := ⟨rfl, rfl, rfl, by decide +kernel, rfl, by decide +kernel, by decide +kernel⟩
theorem sc_law : FnScope ["_law_script", "_law_town_here", "_law_many", "_law_least", "_law_knaves", "_law_purse", "_law_joint", "_law_goals", "_law_signed", "_law_turn", "_law_owner", "_law_order", "_law_mine", "_law_ready", "_law_faces_here", "_law_fresh", "_law_honest", "_law_short", "_law_k"] ["_law_script"] (defScope s_law) := ⟨rfl, rfl, rfl, by decide +kernel, rfl, by decide +kernel, by decide +kernel⟩
theorem nd_0 : (["thing", "self"] : List Str).Nodup := by decide +kernel
theorem nd_1 : (["thing", "houses", "house"] : List Str).Nodup := by decide +kernel
theorem nd_2 : (["other", "order"] : List Str).Nodup := by decide +kernel
theorem nd_3 : (["owner", "self"] : List Str).Nodup := by decide +kernel
theorem nd_4 : (["_law_k", "_law_signed", "_law_two"] : List Str).Nodup := by decide +kernel
theorem nd_5 : (["_law_k", "_law_knaves"] : List Str).Nodup := by decide +kernel
theorem nd_6 : (["_law_k", "_law_knaves"] : List Str).Nodup := by decide +kernel
theorem nd_7 : (["_law_one"] : List Str).Nodup := by decide +kernel
theorem nd_8 : (["_law_one", "_law_least", "_law_signed"] : List Str).Nodup := by decide +kernel
theorem nd_9 : (["_law_one", "_law_owner", "_law_order", "_law_signed"] : List Str).Nodup := by decide +kernel
theorem nd_10 : (["_law_k", "_law_purse"] : List Str).Nodup := by decide +kernel
theorem boot_isinstance : bootBuiltins "isinstance" = some (.builtin "isinstance") := by decide +kernel
theorem boot_bool : bootBuiltins "bool" = some (.type "bool") := by decide +kernel
theorem boot_int : bootBuiltins "int" = some (.type "int") := by decide +kernel
theorem boot_len : bootBuiltins "len" = some (.builtin "len") := by decide +kernel
theorem boot_tuple : bootBuiltins "tuple" = some (.type "tuple") := by decide +kernel
theorem boot_sorted : bootBuiltins "sorted" = some (.builtin "sorted") := by decide +kernel
theorem boot_list : bootBuiltins "list" = some (.type "list") := by decide +kernel
theorem boot_any : bootBuiltins "any" = some (.builtin "any") := by decide +kernel
theorem boot_range : bootBuiltins "range" = some (.type "range") := by decide +kernel
theorem boot_set : bootBuiltins "set" = some (.type "set") := by decide +kernel
theorem boot_max : bootBuiltins "max" = some (.builtin "max") := by decide +kernel
structure Ad where
  f_is_whole : Addr
  d_is_whole : FuncData
  f_is_between : Addr
  d_is_between : FuncData
  f_is_order : Addr
  d_is_order : FuncData
  f_place_of : Addr
  d_place_of : FuncData
  f_clash : Addr
  d_clash : FuncData
  f_are_rising : Addr
  d_are_rising : FuncData
  f_is_rising_row : Addr
  d_is_rising_row : FuncData
  f_clashing_places : Addr
  d_clashing_places : FuncData
  f_check_owners : Addr
  d_check_owners : FuncData
  f_check_order : Addr
  d_check_order : FuncData
  f_Board___init__ : Addr
  d_Board___init__ : FuncData
  f_Board_houses_for : Addr
  d_Board_houses_for : FuncData
  f_Board_is_carried : Addr
  d_Board_is_carried : FuncData
  f_Board_put : Addr
  d_Board_put : FuncData
  f_Board_carried : Addr
  d_Board_carried : FuncData
  f_Board_things_of : Addr
  d_Board_things_of : FuncData
  f_Joint___init__ : Addr
  d_Joint___init__ : FuncData
  f_Joint_has_other : Addr
  d_Joint_has_other : FuncData
  f_Joint_sign : Addr
  d_Joint_sign : FuncData
  f_Joint_signed : Addr
  d_Joint_signed : FuncData
  f_Joint_ready : Addr
  d_Joint_ready : FuncData
  f_Joint_is_sure : Addr
  d_Joint_is_sure : FuncData
  f_Joint_two_faced : Addr
  d_Joint_two_faced : FuncData
  f__law_town : Addr
  d__law_town : FuncData
  f__law_draw : Addr
  d__law_draw : FuncData
  f__law_pick : Addr
  d__law_pick : FuncData
  f__law_is : Addr
  d__law_is : FuncData
  f__law_some : Addr
  d__law_some : FuncData
  f__law_faces : Addr
  d__law_faces : FuncData
  f_law : Addr
  d_law : FuncData
  a_Board : Addr
  a_Joint : Addr
structure Txt (K : PySem.W.Frag) (mg : Str → Option Value) (t : Ad) : Prop where
  F_is_whole : Fun K "is_whole" "is_whole" s_is_whole t.f_is_whole t.d_is_whole
  m_is_whole : mg "is_whole" = some (.ref t.f_is_whole)
  b_is_whole : Binds K t.d_is_whole ["thing"] []
  F_is_between : Fun K "is_between" "is_between" s_is_between t.f_is_between t.d_is_between
  m_is_between : mg "is_between" = some (.ref t.f_is_between)
  b_is_between : Binds K t.d_is_between ["thing", "low", "high"] []
  F_is_order : Fun K "is_order" "is_order" s_is_order t.f_is_order t.d_is_order
  m_is_order : mg "is_order" = some (.ref t.f_is_order)
  bd0_is_order : ∃ tk, Binds K t.d_is_order ["thing", "purses"] [.int 8 tk]
  F_place_of : Fun K "place_of" "place_of" s_place_of t.f_place_of t.d_place_of
  m_place_of : mg "place_of" = some (.ref t.f_place_of)
  b_place_of : Binds K t.d_place_of ["order"] []
  F_clash : Fun K "clash" "clash" s_clash t.f_clash t.d_clash
  m_clash : mg "clash" = some (.ref t.f_clash)
  b_clash : Binds K t.d_clash ["one", "other"] []
  F_are_rising : Fun K "are_rising" "are_rising" s_are_rising t.f_are_rising t.d_are_rising
  m_are_rising : mg "are_rising" = some (.ref t.f_are_rising)
  b_are_rising : Binds K t.d_are_rising ["things", "bound"] []
  F_is_rising_row : Fun K "is_rising_row" "is_rising_row" s_is_rising_row t.f_is_rising_row t.d_is_rising_row
  m_is_rising_row : mg "is_rising_row" = some (.ref t.f_is_rising_row)
  b_is_rising_row : Binds K t.d_is_rising_row ["thing", "bound"] []
  F_clashing_places : Fun K "clashing_places" "clashing_places" s_clashing_places t.f_clashing_places t.d_clashing_places
  m_clashing_places : mg "clashing_places" = some (.ref t.f_clashing_places)
  b_clashing_places : Binds K t.d_clashing_places ["orders"] []
  F_check_owners : Fun K "check_owners" "check_owners" s_check_owners t.f_check_owners t.d_check_owners
  m_check_owners : mg "check_owners" = some (.ref t.f_check_owners)
  bk0_check_owners : KBinds K t.d_check_owners ["owners", "need", "cheats"] ["need", "cheats"] kb12 kb12
  F_check_order : Fun K "check_order" "check_order" s_check_order t.f_check_order t.d_check_order
  m_check_order : mg "check_order" = some (.ref t.f_check_order)
  b_check_order : Binds K t.d_check_order ["order"] []
  F_Board___init__ : Fun K "__init__" "Board.__init__" s_Board___init__ t.f_Board___init__ t.d_Board___init__
  mt_Board___init__ : Meth K t.a_Board "__init__" t.f_Board___init__
  mk_Board : Mk K t.a_Board t.f_Board___init__
  b_Board___init__ : Binds K t.d_Board___init__ ["self", "enough"] []
  F_Board_houses_for : Fun K "houses_for" "Board.houses_for" s_Board_houses_for t.f_Board_houses_for t.d_Board_houses_for
  mt_Board_houses_for : Meth K t.a_Board "houses_for" t.f_Board_houses_for
  b_Board_houses_for : Binds K t.d_Board_houses_for ["self", "thing"] []
  F_Board_is_carried : Fun K "is_carried" "Board.is_carried" s_Board_is_carried t.f_Board_is_carried t.d_Board_is_carried
  mt_Board_is_carried : Meth K t.a_Board "is_carried" t.f_Board_is_carried
  b_Board_is_carried : Binds K t.d_Board_is_carried ["self", "thing"] []
  F_Board_put : Fun K "put" "Board.put" s_Board_put t.f_Board_put t.d_Board_put
  mt_Board_put : Meth K t.a_Board "put" t.f_Board_put
  b_Board_put : Binds K t.d_Board_put ["self", "house", "thing"] []
  F_Board_carried : Fun K "carried" "Board.carried" s_Board_carried t.f_Board_carried t.d_Board_carried
  mt_Board_carried : Meth K t.a_Board "carried" t.f_Board_carried
  b_Board_carried : Binds K t.d_Board_carried ["self"] []
  F_Board_things_of : Fun K "things_of" "Board.things_of" s_Board_things_of t.f_Board_things_of t.d_Board_things_of
  mt_Board_things_of : Meth K t.a_Board "things_of" t.f_Board_things_of
  b_Board_things_of : Binds K t.d_Board_things_of ["self", "house"] []
  F_Joint___init__ : Fun K "__init__" "Joint.__init__" s_Joint___init__ t.f_Joint___init__ t.d_Joint___init__
  mt_Joint___init__ : Meth K t.a_Joint "__init__" t.f_Joint___init__
  mk_Joint : Mk K t.a_Joint t.f_Joint___init__
  bk0_Joint___init__ : KBinds K t.d_Joint___init__ ["self", "purse", "owners", "need", "cheats"] ["owners", "need", "cheats"] kb23 kb23
  bk1_Joint___init__ : ∃ a, KBinds K t.d_Joint___init__ ["self", "purse", "owners", "need", "cheats"] ["owners", "need"] (kb22d (Value.ref a)) (kb22d (V.ref a)) ∧ ∃ o n, K.lookup a = some o ∧ o.cls = .type "tuple" ∧ o.data = .seq #[] n
  F_Joint_has_other : Fun K "has_other" "Joint.has_other" s_Joint_has_other t.f_Joint_has_other t.d_Joint_has_other
  mt_Joint_has_other : Meth K t.a_Joint "has_other" t.f_Joint_has_other
  b_Joint_has_other : Binds K t.d_Joint_has_other ["self", "owner", "order"] []
  F_Joint_sign : Fun K "sign" "Joint.sign" s_Joint_sign t.f_Joint_sign t.d_Joint_sign
  mt_Joint_sign : Meth K t.a_Joint "sign" t.f_Joint_sign
  b_Joint_sign : Binds K t.d_Joint_sign ["self", "owner", "order"] []
  F_Joint_signed : Fun K "signed" "Joint.signed" s_Joint_signed t.f_Joint_signed t.d_Joint_signed
  mt_Joint_signed : Meth K t.a_Joint "signed" t.f_Joint_signed
  b_Joint_signed : Binds K t.d_Joint_signed ["self", "order"] []
  F_Joint_ready : Fun K "ready" "Joint.ready" s_Joint_ready t.f_Joint_ready t.d_Joint_ready
  mt_Joint_ready : Meth K t.a_Joint "ready" t.f_Joint_ready
  b_Joint_ready : Binds K t.d_Joint_ready ["self"] []
  F_Joint_is_sure : Fun K "is_sure" "Joint.is_sure" s_Joint_is_sure t.f_Joint_is_sure t.d_Joint_is_sure
  mt_Joint_is_sure : Meth K t.a_Joint "is_sure" t.f_Joint_is_sure
  b_Joint_is_sure : Binds K t.d_Joint_is_sure ["self"] []
  F_Joint_two_faced : Fun K "two_faced" "Joint.two_faced" s_Joint_two_faced t.f_Joint_two_faced t.d_Joint_two_faced
  mt_Joint_two_faced : Meth K t.a_Joint "two_faced" t.f_Joint_two_faced
  b_Joint_two_faced : Binds K t.d_Joint_two_faced ["self"] []
  F__law_town : Fun K "_law_town" "_law_town" s__law_town t.f__law_town t.d__law_town
  m__law_town : mg "_law_town" = some (.ref t.f__law_town)
  b__law_town : Binds K t.d__law_town ["_law_script"] []
  F__law_draw : Fun K "_law_draw" "_law_draw" s__law_draw t.f__law_draw t.d__law_draw
  m__law_draw : mg "_law_draw" = some (.ref t.f__law_draw)
  b__law_draw : Binds K t.d__law_draw ["_law_town_here", "_law_many"] []
  F__law_pick : Fun K "_law_pick" "_law_pick" s__law_pick t.f__law_pick t.d__law_pick
  m__law_pick : mg "_law_pick" = some (.ref t.f__law_pick)
  b__law_pick : Binds K t.d__law_pick ["_law_town_here", "_law_some_here"] []
  F__law_is : Fun K "_law_is" "_law_is" s__law_is t.f__law_is t.d__law_is
  m__law_is : mg "_law_is" = some (.ref t.f__law_is)
  b__law_is : Binds K t.d__law_is ["_law_told", "_law_due"] []
  F__law_some : Fun K "_law_some" "_law_some" s__law_some t.f__law_some t.d__law_some
  m__law_some : mg "_law_some" = some (.ref t.f__law_some)
  b__law_some : Binds K t.d__law_some ["_law_town_here", "_law_size", "_law_most"] []
  F__law_faces : Fun K "_law_faces" "_law_faces" s__law_faces t.f__law_faces t.d__law_faces
  m__law_faces : mg "_law_faces" = some (.ref t.f__law_faces)
  b__law_faces : Binds K t.d__law_faces ["_law_signed"] []
  F_law : Fun K "law" "law" s_law t.f_law t.d_law
  m_law : mg "law" = some (.ref t.f_law)
  b_law : Binds K t.d_law ["_law_script"] []
  c_MOST_MUCH : ∃ tk, mg "MOST_MUCH" = some (.int 1000 tk)
  c_LAST_NUMBER : ∃ tk, mg "LAST_NUMBER" = some (.int 99 tk)
  c_MOST_OWNERS : ∃ tk, mg "MOST_OWNERS" = some (.int 6 tk)
  c_MOST_PURSES : ∃ tk, mg "MOST_PURSES" = some (.int 8 tk)
  m_Board : mg "Board" = some (.ref t.a_Board)
  cl_Board : Cls K t.a_Board
  na_Board_enough : NoAttr K t.a_Board "enough"
  na_Board_signers : NoAttr K t.a_Board "signers"
  m_Joint : mg "Joint" = some (.ref t.a_Joint)
  cl_Joint : Cls K t.a_Joint
  na_Joint_purse : NoAttr K t.a_Joint "purse"
  na_Joint_owners : NoAttr K t.a_Joint "owners"
  na_Joint_cheating : NoAttr K t.a_Joint "cheating"
  na_Joint_board : NoAttr K t.a_Joint "board"
  n_isinstance : mg "isinstance" = none
  n_bool : mg "bool" = none
  n_int : mg "int" = none
  n_len : mg "len" = none
  n_tuple : mg "tuple" = none
  n_sorted : mg "sorted" = none
  n_list : mg "list" = none
  n_any : mg "any" = none
  n_range : mg "range" = none
  n_set : mg "set" = none
  n_max : mg "max" = none
/-! ### the data -/
def ordV (o : O) : List V := [.int o.p, .int o.n, .int o.g, .int o.m]
def OrdAt (H : Hp) (x : V) (o : O) : Prop := ∃ a, x = .ref a ∧ H a = some (.tup (ordV o))
abbrev OrdsAt (H : Hp) (xs : List V) (os : List O) : Prop := Paired (OrdAt H) xs os
theorem ords_get {F : V → O → Prop} : ∀ {xs : List V} {os : List O} {i : Nat} {x : V}, Paired F xs os → xs[i]? = some x → ∃ o, os[i]? = some o ∧ F x o
  | _, _, i, x, .nil, e => by simp at e
  | _, _, 0, x, .cons h _, e => by
    have e' := Option.some.inj e
    subst e'
    exact ⟨_, rfl, h⟩
  | _, _, i + 1, x, .cons _ t, e => ords_get (i := i) t e
theorem OrdAt.same {H H' : Hp} {x : V} {o : O} (s : Same H H') (h : OrdAt H x o) : OrdAt H' x o := by
  obtain ⟨a, e, q⟩ := h
  exact ⟨a, e, s _ _ q⟩
theorem same_upd {H : Hp} {p : Addr} {o : HO} (h : H p = none) : Same H (upd H p o) := fun b u e => by rw [upd_ne (ne_of_none e h)]; exact e
theorem nd {c : Prop} [Decidable c] (h : (!decide c) = true) : ¬ c := fun z => by rw [decide_eq_true z] at h; cases h
theorem yd {c : Prop} [Decidable c] (h : ¬ (!decide c) = true) : c := by
  by_cases z : c
  · exact z
  · exact absurd (by rw [decide_eq_false z]; rfl) h
theorem ifTrue {b : Bool} {A B : Prop} (e : b = true) (h : B) : if (!b) = true then A else B := by subst e; exact iteF h
theorem take_snoc {α : Type} {l : List α} {i : Nat} {x : α} (h : l[i]? = some x) : l.take (i + 1) = l.take i ++ [x] := by rw [List.take_add_one, h]; rfl
theorem set_map (s : List Int) (i : Nat) (z : Int) : (s.map V.int).set i (.int z) = (s.set i z).map V.int := by rw [List.map_set]
theorem get_map {s : List Int} {i : Nat} (h : i < s.length) : (s.map V.int)[i]? = some (.int (s.getD i 0)) := by
  rw [List.getElem?_map, List.getElem?_eq_getElem h, List.getD_eq_getElem?_getD, List.getElem?_eq_getElem h]
  rfl
theorem ixN_of {n : Nat} {i : Int} (h0 : 0 ≤ i) (h1 : i.toNat < n) : ixN n i = some i.toNat := by
  unfold ixN
  rw [if_pos h0, if_pos (by omega)]
theorem atI_of {α : Type} {xs : List α} {i : Int} {v : α} (h0 : 0 ≤ i) (h : xs[i.toNat]? = some v) : atI xs i = some v := by
  unfold atI
  rw [ixN_of h0 (List.getElem?_eq_some_iff.mp h).1]
  exact h
theorem tYes_intro {i : Nat} {x : V} {σ : St} {H : Hp} {F G : St → Hp → Prop} (h : F (σ.set i (some x)) H) : gName i x σ H fun σ2 H2 => tYes σ2 H2 fun b H3 => if b = true then F σ2 H3 else G σ2 H3 := iteT (A := F (σ.set i (some x)) H) (B := G (σ.set i (some x)) H) h
theorem len1000 {n : Nat} (h : n ≤ 1000) : n ≤ sizeLine := Nat.le_of_lt (small1000 h)
/-- the row of draws: the list at T holds the list at R and a count -/
def Town (T R : Addr) (H : Hp) : Prop := ∃ (row : List Int) (c : Int), H T = some (.lst [.ref R, .int c]) ∧ H R = some (.lst (row.map V.int)) ∧ 0 < row.length
/-- nothing but the row of draws has changed -/
def KeepT (T R : Addr) (H H' : Hp) : Prop := ∀ b o, H b = some o → b ≠ T → b ≠ R → H' b = some o
theorem Town.ne {T R : Addr} {H : Hp} (h : Town T R H) : T ≠ R := by
  obtain ⟨row, c, h1, h2, h3⟩ := h
  refine ne_of h1 h2 fun e => ?_
  have e' := HO.lst.inj e
  cases row with
  | nil => cases h3
  | cons x r => rw [List.map_cons] at e'; cases (List.cons.inj e').1
theorem Town.same {T R : Addr} {H H' : Hp} (h : Town T R H) (s : Same H H') : Town T R H' := by
  obtain ⟨row, c, h1, h2, h3⟩ := h
  exact ⟨row, c, s _ _ h1, s _ _ h2, h3⟩
theorem Town.neT {T R b : Addr} {H : Hp} (h : Town T R H) {xs : List V} (hb : H b = some (.tup xs)) : b ≠ T ∧ b ≠ R := by
  obtain ⟨row, c, h1, h2, h3⟩ := h
  exact ⟨ne_of hb h1 (by intro z; cases z), ne_of hb h2 (by intro z; cases z)⟩
theorem Town.fresh {T R b : Addr} {H : Hp} (h : Town T R H) (hb : H b = none) : b ≠ T ∧ b ≠ R := by
  obtain ⟨row, c, h1, h2, h3⟩ := h
  exact ⟨(ne_of_none h1 hb).symm, (ne_of_none h2 hb).symm⟩
theorem KeepT.trans {T R : Addr} {H H1 H2 : Hp} (a : KeepT T R H H1) (b : KeepT T R H1 H2) : KeepT T R H H2 := fun c o e h1 h2 => b c o (a c o e h1 h2) h1 h2
theorem KeepT.of {T R : Addr} {H H' : Hp} (s : Same H H') : KeepT T R H H' := fun b o e _ _ => s b o e
def sp_is_whole : Sp := fun vs H Q _ => ∃ i, vs = [.int i] ∧ Q (.bl true) H
def sp_is_between : Sp := fun vs H Q _ => ∃ i l h, vs = [.int i, .int l, .int h] ∧ Q (.bl (decide (l ≤ i ∧ i ≤ h))) H
def sp_is_order : Sp := fun vs H Q _ => ∃ a o q, vs = [.ref a, .int q] ∧ H a = some (.tup (ordV o)) ∧ Q (.bl (isOrd q o)) H
def sp_place_of : Sp := fun vs H Q _ => ∃ a o, vs = [.ref a] ∧ H a = some (.tup (ordV o)) ∧ isOrd 8 o = true ∧ ∀ p, H p = none → Q (.ref p) (upd H p (.tup [.int o.p, .int o.n]))
def sp_clash : Sp := fun vs H Q _ => ∃ a b o u, vs = [.ref a, .ref b] ∧ H a = some (.tup (ordV o)) ∧ H b = some (.tup (ordV u)) ∧ isOrd 8 o = true ∧ isOrd 8 u = true ∧
  ∀ H', Same H H' → Q (.bl (decide (o ≠ u ∧ o.p = u.p ∧ o.n = u.n))) H'
theorem ok_is_whole (T : Txt K mg t) : FnOk P w K mg base CX0 1 t.f_is_whole t.d_is_whole ["thing"] sp_is_whole := by
  refine T.F_is_whole.ok sc_is_whole (fun vs H Q E h => ?_) (fun cdv A outer s H vs Q E hr h => ?_)
  · obtain ⟨i, rfl, _⟩ := h
    rfl
  · obtain ⟨i, rfl, q⟩ := h
    refine ⟨_, (@pss_one _ _ _ (ps_ret (pe_and (pe_callB call_isinst rfl T.n_isinstance boot_isinstance (@pa_2 _ _ _ _ _ (pv 0) (pe_bltn (v := .ty "int") rfl T.n_int boot_int rfl) rfl rfl)) (pe_one (pe_not (pe_callB call_isinst rfl T.n_isinstance boot_isinstance (@pa_2 _ _ _ _ _ (pv 0) (pe_bltn (v := .ty "bool") rfl T.n_bool boot_bool rfl) rfl rfl))))))), ?_⟩
    refine ⟨_, rfl, _, _, _, true, rfl, .int _, rfl, _, rfl, iteT ?_⟩
    exact ⟨_, rfl, _, _, _, false, rfl, .int _, rfl, _, rfl, q⟩
theorem ok_is_between (T : Txt K mg t) : FnOk P w K mg base CX0 2 t.f_is_between t.d_is_between ["thing", "low", "high"] sp_is_between := by
  refine T.F_is_between.ok sc_is_between (fun vs H Q E h => ?_) (fun cdv A outer s H vs Q E hr h => ?_)
  · obtain ⟨i, l, h, rfl, _⟩ := h
    rfl
  · obtain ⟨i, l, u, rfl, q⟩ := h
    refine ⟨_, (@pss_one _ _ _ (ps_ret (pe_and (pe_call (ok_is_whole T) (hr.mono (by decide)) rfl T.m_is_whole T.F_is_whole.kp T.b_is_whole .nil pass0 (pa_more (pv 0) pa_nil)) (pe_one (pe_chain op_le op_le (pv 1) (pv 0) (pv 2)))))), ?_⟩
    refine ⟨_, rfl, i, rfl, _, rfl, iteT ?_⟩
    refine ⟨_, rfl, _, rfl, _, _, rfl, rfl, _, rfl, ?_⟩
    refine ite2 (fun h1 => ?_) (fun h1 => ?_)
    · refine ⟨_, rfl, _, _, rfl, rfl, ?_⟩
      have e : decide (l ≤ i ∧ i ≤ u) = decide (i ≤ u) := by
        have h1' := of_decide_eq_true h1
        simp [h1']
      rw [e] at q
      exact q
    · have e : decide (l ≤ i ∧ i ≤ u) = false := by
        have h1' : ¬ l ≤ i := fun z => h1 (decide_eq_true z)
        simp [h1']
      rw [e] at q
      exact q
theorem ok_is_order (T : Txt K mg t) : FnOk P w K mg base CX0 3 t.f_is_order t.d_is_order ["thing", "purses"] sp_is_order := by
  refine T.F_is_order.ok sc_is_order (fun vs H Q E h => ?_) (fun cdv A outer s H vs Q E hr h => ?_)
  · obtain ⟨a, o, q, rfl, _⟩ := h
    rfl
  · obtain ⟨a, o, q, rfl, ha, k⟩ := h
    refine ⟨_, (@pss_cons _ _ _ _ _ (ps_if (PW.pt (pw_or (pt_not (pt_val (pe_callB call_isinst rfl T.n_isinstance boot_isinstance (@pa_2 _ _ _ _ _ (pv 0) (pe_bltn (v := .ty "tuple") rfl T.n_tuple boot_tuple rfl) rfl rfl)))) (pw_or1 (pt_cmpR op_ne (pe_callB call_len_seq rfl T.n_len boot_len (pa_more (pv 0) pa_nil)) pe_int (nomark _))))) (@pss_one _ _ _ (ps_ret pe_bl)) pss_nil)
      (@pss_cons _ _ _ _ _ (ps_asg (pv 0) (pg_tup rfl (pgs_cons (pg_name (i := 2) sc_is_order.nd rfl (Or.inl rfl)) (pgs_cons (pg_name (i := 3) sc_is_order.nd rfl (Or.inl rfl)) (pgs_cons (pg_name (i := 4) sc_is_order.nd rfl (Or.inl rfl)) (pgs_cons (pg_name (i := 5) sc_is_order.nd rfl (Or.inl rfl)) pgs_nil))))))
      (@pss_cons _ _ _ _ _ (ps_if (PW.pt (pw_or (pt_not (pt_val (pe_call (ok_is_between T) (hr.mono (by decide)) rfl T.m_is_between T.F_is_between.kp T.b_is_between .nil pass0 (@pa_3 _ _ _ _ _ _ _ (pv 2) pe_int (pe_op op_sub (pv 1) pe_int) rfl rfl rfl)))) (pw_or1 (pt_not (pt_val (pe_call (ok_is_between T) (hr.mono (by decide)) rfl T.m_is_between T.F_is_between.kp T.b_is_between .nil pass0 (@pa_3 _ _ _ _ _ _ _ (pv 4) pe_int (pe_op op_sub (pv 1) pe_int) rfl rfl rfl))))))) (@pss_one _ _ _ (ps_ret pe_bl)) pss_nil)
      (@pss_one _ _ _ (ps_ret (pe_and (pe_cmpR op_ne (pv 2) (pv 4) (nomark _)) (pe_and (pe_call (ok_is_between T) (hr.mono (by decide)) rfl T.m_is_between T.F_is_between.kp T.b_is_between .nil pass0 (@pa_3 _ _ _ _ _ _ _ (pv 3) pe_int (pe_glob (v := .int 99) rfl T.c_LAST_NUMBER.choose_spec ⟨_, rfl⟩) rfl rfl rfl)) (pe_one (pe_call (ok_is_between T) (hr.mono (by decide)) rfl T.m_is_between T.F_is_between.kp T.b_is_between .nil pass0 (@pa_3 _ _ _ _ _ _ _ (pv 5) pe_int (pe_glob (v := .int 1000) rfl T.c_MOST_MUCH.choose_spec ⟨_, rfl⟩) rfl rfl rfl)))))))))), ?_⟩
    -- it is a tuple of four
    refine ⟨_, rfl, _, _, _, true, rfl, .tup ha, rfl, _, rfl, ?_⟩
    refine iteF ?_
    refine ⟨_, rfl, a, ordV o, rfl, .inr (SqT.of ha), rfl, _, rfl, ?_⟩
    refine iteF ?_
    -- its parts
    refine ⟨_, rfl, a, ordV o, rfl, SqT.of ha, rfl, _, _, rfl, _, _, rfl, _, _, rfl, _, _, rfl, rfl, ?_⟩
    have fin : ∀ b, b = isOrd q o → Q (.bl b) H := fun b e => e ▸ k
    refine ⟨_, rfl, _, rfl, _, _, rfl, rfl, _, _, _, rfl, _, rfl, ?_⟩
    refine ite2 (fun h1 => fin _ ?_) (fun h1 => ?_)
    · have z := nd h1
      unfold isOrd
      exact (decide_eq_false (fun h => z ⟨h.1, h.2.1⟩)).symm
    have z1 := yd h1
    refine ⟨_, rfl, _, rfl, _, _, rfl, rfl, _, _, _, rfl, _, rfl, ?_⟩
    refine ite2 (fun h2 => fin _ ?_) (fun h2 => ?_)
    · have z := nd h2
      unfold isOrd
      exact (decide_eq_false (fun h => z ⟨h.2.2.1, h.2.2.2.1⟩)).symm
    have z2 := yd h2
    refine ⟨_, rfl, _, rfl, rfl, _, rfl, ?_⟩
    refine ite2 (fun h3 => ?_) (fun h3 => fin _ ?_)
    · have z3 : ¬ o.p = o.g := by simpa using h3
      refine ⟨_, rfl, _, _, _, rfl, _, rfl, ?_⟩
      refine ite2 (fun h4 => ?_) (fun h4 => fin _ ?_)
      · have z4 := of_decide_eq_true h4
        refine ⟨_, rfl, _, _, _, rfl, fin _ ?_⟩
        unfold isOrd
        rw [Bool.eq_iff_iff, decide_eq_true_iff, decide_eq_true_iff]
        exact ⟨fun h => ⟨z1.1, z1.2, z2.1, z2.2, z3, z4.1, z4.2, h.1, h.2⟩, fun h => h.2.2.2.2.2.2.2⟩
      · have z4 : ¬ (0 ≤ o.n ∧ o.n ≤ 99) := fun h => h4 (decide_eq_true h)
        unfold isOrd
        exact (decide_eq_false (fun h => z4 ⟨h.2.2.2.2.2.1, h.2.2.2.2.2.2.1⟩)).symm
    · have z3 : o.p = o.g := by simpa using h3
      unfold isOrd
      exact (decide_eq_false (fun h => h.2.2.2.2.1 z3)).symm
theorem ok_place_of (T : Txt K mg t) : FnOk P w K mg base CX0 4 t.f_place_of t.d_place_of ["order"] sp_place_of := by
  refine T.F_place_of.ok sc_place_of (fun vs H Q E h => ?_) (fun cdv A outer s H vs Q E hr h => ?_)
  · obtain ⟨a, o, rfl, _⟩ := h
    rfl
  · obtain ⟨a, o, rfl, ha, ho, k⟩ := h
    refine ⟨_, (@pss_cons _ _ _ _ _ (ps_if (pt_not (pt_val (pe_call (ok_is_order T) (hr.mono (by decide)) rfl T.m_is_order T.F_is_order.kp T.bd0_is_order.choose_spec (show Vals [.int 8] _ from .cons ⟨_, rfl⟩ .nil) pass0 (pa_more (pv 0) pa_nil)))) (@pss_one _ _ _ (ps_never)) pss_nil)
      (@pss_one _ _ _ (ps_ret (@pe_tup _ _ _ _ _ (@pa_2 _ _ _ _ _ (pe_ix ix_tup (pv 0) pe_int (fun _ _ => rfl)) (pe_ix ix_tup (pv 0) pe_int (fun _ _ => rfl)) rfl rfl))))), ?_⟩
    refine ⟨_, rfl, a, o, 8, rfl, ha, _, rfl, ifTrue ho ?_⟩
    exact ⟨_, rfl, a, ordV o, 0, .int o.p, rfl, rfl, SqT.of ha, rfl, _, rfl, a, ordV o, 1, .int o.n, rfl, rfl, SqT.of ha, rfl, (by show 2 ≤ sizeLine; decide), fun p hp => k p hp⟩
theorem ok_clash (T : Txt K mg t) : FnOk P w K mg base CX0 5 t.f_clash t.d_clash ["one", "other"] sp_clash := by
  refine T.F_clash.ok sc_clash (fun vs H Q E h => ?_) (fun cdv A outer s H vs Q E hr h => ?_)
  · obtain ⟨a, b, o, u, rfl, _⟩ := h
    rfl
  · obtain ⟨a, b, o, u, rfl, ha, hb, ho, hu, k⟩ := h
    refine ⟨_, (@pss_one _ _ _ (ps_ret (pe_and (pe_cmpR (op_eqD hr.units) (pe_call (ok_place_of T) (hr.mono (by decide)) rfl T.m_place_of T.F_place_of.kp T.b_place_of .nil pass0 (pa_more (pv 0) pa_nil)) (pe_call (ok_place_of T) (hr.mono (by decide)) rfl T.m_place_of T.F_place_of.kp T.b_place_of .nil pass0 (pa_more (pv 1) pa_nil)) (nomark _)) (pe_one (pe_cmpR (op_neD hr.units) (pv 0) (pv 1) (nomark _)))))), ?_⟩
    refine ⟨_, rfl, a, o, rfl, ha, ho, fun p1 h1 => ?_⟩
    have s1 := same_upd (o := .tup [.int o.p, .int o.n]) h1
    refine ⟨_, rfl, b, u, rfl, s1 _ _ hb, hu, fun p2 h2 => ?_⟩
    have s2 := s1.trans (same_upd (o := .tup [.int u.p, .int u.n]) h2)
    have n12 : p1 ≠ p2 := ne_of_none upd_same h2
    refine ⟨.tup ([o.p, o.n].map Dt.int), .tup ([u.p, u.n].map Dt.int), hasD_tupI (SqT.of (by rw [upd_ne n12, upd_same]; rfl)), hasD_tupI (SqT.of upd_same), dep_tupI _, _, rfl, ?_⟩
    rw [eqD_tupI]
    refine ite2 (fun h3 => ?_) (fun h3 => ?_)
    · have e3 := of_decide_eq_true h3
      refine ⟨_, rfl, _, rfl, .tup ([o.p, o.n, o.g, o.m].map Dt.int), .tup ([u.p, u.n, u.g, u.m].map Dt.int), hasD_tupI (SqT.of (s2 _ _ ha)), hasD_tupI (SqT.of (s2 _ _ hb)), dep_tupI _, ?_⟩
      rw [eqD_tupI]
      have e4 : (!decide ([o.p, o.n, o.g, o.m] = [u.p, u.n, u.g, u.m])) = decide (o ≠ u ∧ o.p = u.p ∧ o.n = u.n) := by
        rw [Bool.eq_iff_iff]
        simp only [List.cons.injEq, and_true] at e3
        obtain ⟨op, on, og, om⟩ := o
        obtain ⟨up, un, ug, um⟩ := u
        simp at e3 ⊢
        simp [e3]
      rw [e4]
      exact k _ s2
    · have e4 : decide (o ≠ u ∧ o.p = u.p ∧ o.n = u.n) = false := decide_eq_false fun z => h3 (decide_eq_true (by rw [z.2.1, z.2.2]))
      have q := k _ s2
      rw [e4] at q
      exact q
/-! ### a board -/
theorem upd_none' {H : Hp} {a b : Addr} {o : HO} (h : upd H a o b = none) : b ≠ a ∧ H b = none := by
  have hb : b ≠ a := fun z => by
    rw [z, upd_same] at h
    cases h
  rw [upd_ne hb] at h
  exact ⟨hb, h⟩
def brd (S : Addr) (en : Int) : List (Str × V) := putF "signers" (.ref S) (putF "enough" (.int en) [])
theorem brd_signers (S : Addr) (en : Int) : (brd S en).lookup ("signers" : Str) = some (.ref S) := by
  unfold brd
  rw [lookup_putF, if_pos rfl]
theorem brd_enough (S : Addr) (en : Int) : (brd S en).lookup ("enough" : Str) = some (.int en) := by
  unfold brd
  rw [lookup_putF, if_neg (by decide +kernel), lookup_putF, if_pos rfl]
theorem brd_no (S : Addr) (en : Int) {m : Str} (h1 : ¬ m = "signers") (h2 : ¬ m = "enough") : (brd S en).lookup m = none := by
  unfold brd
  rw [lookup_putF, if_neg h1, lookup_putF, if_neg h2]
  rfl
abbrev Things := List (List Key × List Int)
def HsAt (H : Hp) (kv : List Key × V) (p : List Key × List Int) : Prop := kv.1 = p.1 ∧ ∃ b, kv.2 = .ref b ∧ H b = some (.lst (p.2.map V.int))
structure BoardAt (t : Ad) (H : Hp) (p dx S : Addr) (en : Int) (kvs : List (List Key × V)) (ps : Things) : Prop where
  ob : H p = some (.ins t.a_Board dx (brd S en))
  sg : H S = some (.dT kvs)
  hs : Paired (HsAt H) kvs ps
  un : (kvs.map (·.2)).Nodup
theorem BoardAt.same {t : Ad} {H H' : Hp} {p dx S : Addr} {en : Int} {kvs : List (List Key × V)} {ps : Things} (s : Same H H') (b : BoardAt t H p dx S en kvs ps) : BoardAt t H' p dx S en kvs ps :=
  ⟨s _ _ b.ob, s _ _ b.sg, Paired.mapP b.hs fun _ _ ⟨e, c, ec, h⟩ => ⟨e, c, ec, s _ _ h⟩, b.un⟩
/-- a board that is read, perhaps while it is walked -/
structure BoardRd (t : Ad) (H : Hp) (p dx S : Addr) (en : Int) (kvs : List (List Key × V)) (ps : Things) : Prop where
  ob : H p = some (.ins t.a_Board dx (brd S en))
  sg : Rd H S (.dT kvs)
  hs : Paired (HsAt H) kvs ps
theorem BoardAt.rd {t : Ad} {H : Hp} {p dx S : Addr} {en : Int} {kvs : List (List Key × V)} {ps : Things} (b : BoardAt t H p dx S en kvs ps) : BoardRd t H p dx S en kvs ps := ⟨b.ob, .inl b.sg, b.hs⟩
theorem rd_same {H H' : Hp} {a : Addr} {u : HO} (s : Same H H') (h : Rd H a u) : Rd H' a u := by
  rcases h with h | ⟨o, h⟩
  · exact .inl (s _ _ h)
  · exact .inr ⟨o, s _ _ h⟩
theorem BoardRd.same {t : Ad} {H H' : Hp} {p dx S : Addr} {en : Int} {kvs : List (List Key × V)} {ps : Things} (s : Same H H') (b : BoardRd t H p dx S en kvs ps) : BoardRd t H' p dx S en kvs ps :=
  ⟨s _ _ b.ob, rd_same s b.sg, Paired.mapP b.hs fun _ _ ⟨e, c, ec, h⟩ => ⟨e, c, ec, s _ _ h⟩⟩
/-- who signed a thing -/
def housesOf : Things → List Key → List Int
  | [], _ => []
  | p :: ps, k => if p.1 = k then p.2 else housesOf ps k
theorem val_houses {H : Hp} {k : List Key} : ∀ {kvs : List (List Key × V)} {ps : Things}, Paired (HsAt H) kvs ps → (valV kvs k = none ∧ housesOf ps k = [] ∧ k ∉ ps.map (·.1)) ∨ ∃ b, valV kvs k = some (.ref b) ∧ H b = some (.lst ((housesOf ps k).map V.int))
  | _, _, .nil => .inl ⟨rfl, rfl, by simp⟩
  | kv :: kvs, p :: ps, .cons ⟨e, b, eb, h⟩ r => by
    by_cases z : p.1 = k
    · refine .inr ⟨b, ?_, ?_⟩
      · rw [valV_pos (e.trans z), eb]
      · rw [housesOf, if_pos z]
        exact h
    · have z' : ¬ kv.1 = k := fun q => z (e.symm.trans q)
      rw [housesOf, if_neg z, valV_neg z']
      rcases val_houses r with ⟨h1, h2, h3⟩ | h
      · exact .inl ⟨h1, h2, by rw [List.map_cons, List.mem_cons]; exact fun q => q.elim (fun q => z q.symm) h3⟩
      · exact .inr h
def sp_brinit (t : Ad) : Sp := fun vs H Q _ => ∃ x dx en, vs = [.ref x, .int en] ∧ H x = some (.ins t.a_Board dx []) ∧ ∀ S H', H S = none → BoardAt t H' x dx S en [] [] → (∀ b o, H b = some o → b ≠ x → H' b = some o) → Q .non H'
def sp_housesFor (t : Ad) : Sp := fun vs H Q _ => ∃ p dx S en kvs ps b k, vs = [.ref p, .ref b] ∧ BoardRd t H p dx S en kvs ps ∧ H b = some (.tup (k.map kV)) ∧ (housesOf ps k).length < 64 ∧
  ∀ (r : Addr) (ns : List Int) (H' : Hp), H r = none → Same H H' → ns.Perm (housesOf ps k) → ns.Pairwise (· ≤ ·) → H' r = some (.lst (ns.map V.int)) → Q (.ref r) H'
def sp_carriedIs (t : Ad) : Sp := fun vs H Q _ => ∃ p dx S en kvs ps b k, vs = [.ref p, .ref b] ∧ BoardRd t H p dx S en kvs ps ∧ H b = some (.tup (k.map kV)) ∧ ∀ H', Same H H' → Q (.bl (decide (en ≤ ((housesOf ps k).length : Int)))) H'
/-- one more signature -/
def signP : Things → List Key → Int → Things
  | [], k, h => [(k, [h])]
  | p :: ps, k, h => if p.1 = k then (p.1, p.2 ++ [h]) :: ps else p :: signP ps k h
/-- the lists that a board holds -/
def NotIn (kvs : List (List Key × V)) (c : Addr) : Prop := ∀ kv ∈ kvs, kv.2 ≠ .ref c
def sp_put (t : Ad) : Sp := fun vs H Q _ => ∃ p dx S en kvs ps b k h, vs = [.ref p, .int h, .ref b] ∧ BoardAt t H p dx S en kvs ps ∧ H b = some (.tup (k.map kV)) ∧ kvs.length ≤ 1000 ∧ (housesOf ps k).length ≤ 1000 ∧
  (h ∈ housesOf ps k → ∀ H', Same H H' → Q (.bl false) H') ∧
  (h ∉ housesOf ps k → ∀ kvs' H', BoardAt t H' p dx S en kvs' (signP ps k h) → (∀ c u, H c = some u → c ≠ S → NotIn kvs c → H' c = some u) → (∀ c u, H c = some u → NotIn kvs c → NotIn kvs' c) → Q (.bl (decide (((housesOf ps k).length : Int) + 1 = en))) H')
theorem signP_new : ∀ {ps : Things} {k : List Key} {h : Int}, k ∉ ps.map (·.1) → signP ps k h = ps ++ [(k, [h])]
  | [], _, _, _ => rfl
  | p :: ps, k, h, z => by
    rw [List.map_cons, List.mem_cons] at z
    rw [signP, if_neg (fun e => z (.inl e.symm)), signP_new fun e => z (.inr e)]
    rfl
theorem paired_app {α β : Type} {F : α → β → Prop} : ∀ {xs : List α} {ys : List β} {x : α} {y : β}, Paired F xs ys → F x y → Paired F (xs ++ [x]) (ys ++ [y])
  | _, _, _, _, .nil, h => .cons h .nil
  | _, _, _, _, .cons a r, h => .cons a (paired_app r h)
theorem val_mem {k : List Key} {v : V} {kvs : List (List Key × V)} (ev : valV kvs k = some v) : v ∈ kvs.map (·.2) := by
  unfold valV at ev
  cases hf : kvs.find? (fun kv => decide (kv.1 = k)) with
  | none =>
    rw [hf] at ev
    cases ev
  | some q =>
    rw [hf] at ev
    have e3 : q.2 = v := Option.some.inj ev
    rw [← e3]
    exact List.mem_map_of_mem (List.mem_of_find?_eq_some hf)
theorem inV_ints {h : Int} : ∀ {hs : List Int}, inV (.int h) (hs.map V.int) = decide (h ∈ hs)
  | [] => rfl
  | x :: hs => by
    have ih := inV_ints (h := h) (hs := hs)
    simp only [List.map_cons, inV, List.any_cons] at ih ⊢
    rw [ih]
    by_cases e : h = x
    · subst e
      simp [eqV]
    · have e' : ¬ x = h := fun z => e z.symm
      simp [eqV, e, e']
theorem flat_ints (hs : List Int) : (hs.map V.int).all flatV = true := by
  rw [List.all_eq_true]
  intro y hy
  obtain ⟨i, _, rfl⟩ := List.mem_map.mp hy
  rfl
theorem refs_old {H : Hp} {r : Addr} (hr : H r = none) : ∀ {kvs : List (List Key × V)} {ps : Things}, Paired (HsAt H) kvs ps → V.ref r ∉ kvs.map (·.2)
  | _, _, .nil => by simp
  | _, _, .cons ⟨_, b, eb, hb⟩ q => by
    rw [List.map_cons, List.mem_cons]
    rintro (z | z)
    · rw [eb] at z
      cases z
      rw [hr] at hb
      cases hb
    · exact refs_old hr q z
/-- a list of the board grown by one -/
theorem grown {H : Hp} {k : List Key} {h : Int} {c : Addr} : ∀ {kvs : List (List Key × V)} {ps : Things}, Paired (HsAt H) kvs ps → (kvs.map (·.2)).Nodup → valV kvs k = some (.ref c) → Paired (HsAt (upd H c (.lst ((housesOf ps k ++ [h]).map V.int)))) kvs (signP ps k h)
  | _, _, .nil, _, e => by cases e
  | kv :: kvs, p :: ps, .cons ⟨e, b, eb, hb⟩ r, nd, ev => by
    rw [List.map_cons, List.nodup_cons] at nd
    have keep : ∀ {kvs : List (List Key × V)} {ps : Things} {o : HO} {a : Addr}, V.ref a ∉ kvs.map (·.2) → Paired (HsAt H) kvs ps → Paired (HsAt (upd H a o)) kvs ps := fun {kvs ps o a} ha r => by
      induction r with
      | nil => exact .nil
      | cons q _ ih =>
        rw [List.map_cons, List.mem_cons] at ha
        obtain ⟨q1, b, q2, q3⟩ := q
        refine .cons ⟨q1, b, q2, ?_⟩ (ih fun z => ha (.inr z))
        rw [upd_ne (fun z => ha (.inl (by rw [q2, z])))]
        exact q3
    by_cases z : p.1 = k
    · rw [valV_pos (e.trans z), eb] at ev
      cases ev
      rw [signP, if_pos z, housesOf, if_pos z]
      rw [eb] at nd
      exact .cons ⟨e, c, eb, upd_same⟩ (keep nd.1 r)
    · have z' : ¬ kv.1 = k := fun q => z (e.symm.trans q)
      rw [valV_neg z'] at ev
      rw [signP, if_neg z, housesOf, if_neg z]
      have hm : V.ref c ∈ kvs.map (·.2) := val_mem ev
      have hbc : b ≠ c := fun q => nd.1 (by rw [eb, q]; exact hm)
      exact .cons ⟨e, b, eb, by rw [upd_ne hbc]; exact hb⟩ (grown r nd.2 ev)
theorem lc_dT {a : Addr} {o : Obj} {kvs : List (List Key × V)} {g : TG} {ti : TT} {te : TE} {σ0 : St} {H0 : Hp} {Q : VK} (Pv : Nat → List V → St → Hp → Prop) (h0 : Pv 0 [] σ0 H0)
    (hl : ∀ i ys σ H, i ≤ kvs.length → Pv i ys σ H → H a = some (.frz o (.dT kvs)) ∧ ys.length ≤ sizeLine)
    (hs : ∀ i kv b ys σ H, kvs[i]? = some kv → H b = some (.tup (kv.1.map kV)) → Pv i ys σ H → g (.ref b) σ H fun σ2 H2 => ti σ2 H2 fun c H3 => if c = true then te σ2 H3 fun y H4 => Pv (i + 1) (ys ++ [y]) σ2 H4 else Pv (i + 1) ys σ2 H3)
    (hd : ∀ ys σ H, Pv kvs.length ys σ H → ∀ p, H p = none → Q (.ref p) (upd H p (.lst ys))) :
    ∃ W : Nat → Nat → List V → St → Hp → Prop, (∃ m, W 0 m [] σ0 H0) ∧ ∀ i m ys σ H, W i m ys σ H →
      ys.length ≤ sizeLine ∧ (((ItdT a o kvs).stop i H ∧ lcEnd Q ys H) ∨
        ((ItdT a o kvs).go i H ∧ ∃ N : List V → St → Hp → Prop, (∀ ys' σ' H', N ys' σ' H' → ∃ m', m' < m ∧ W (i + 1) m' ys' σ' H') ∧
          ∀ x H', (ItdT a o kvs).yld i H x H' → g x σ H' fun σ2 H2 => ti σ2 H2 fun b H3 => if b = true then te σ2 H3 fun y H4 => N (ys ++ [y]) σ2 H4 else N ys σ2 H3)) := by
  refine ⟨fun i m ys σ H => m = kvs.length - i ∧ i ≤ kvs.length ∧ Pv i ys σ H, ⟨kvs.length, by simp, Nat.zero_le _, h0⟩, ?_⟩
  rintro i m ys σ H ⟨rfl, hi, p⟩
  obtain ⟨q, hz⟩ := hl i ys σ H hi p
  refine ⟨hz, ?_⟩
  by_cases hlt : i < kvs.length
  · refine .inr ⟨⟨hlt, q⟩, Pv (i + 1), fun ys' σ' H' p' => ⟨kvs.length - (i + 1), by omega, rfl, hlt, p'⟩, fun x H' y => ?_⟩
    obtain ⟨e, kv, b, ek, ex, eb⟩ := y
    subst e ex
    exact hs i kv b ys σ _ ek eb p
  · have e : i = kvs.length := by omega
    subst e
    exact .inl ⟨⟨Nat.le_refl _, q⟩, hd ys σ H p⟩
abbrev IThings := List (List Int × List Int)
def keyI (t : List Int) : List Key := t.map Sum.inl
def thP (is : IThings) : Things := is.map fun p => (keyI p.1, p.2)
theorem keyI_map (t : List Int) : (keyI t).map kV = t.map V.int := by
  unfold keyI
  rw [List.map_map]
  rfl
theorem keyI_inj {t u : List Int} (h : keyI t = keyI u) : t = u := (List.map_inj_right (fun _ _ z => Sum.inl.inj z)).mp h
/-- the things that enough have signed -/
def carriedI (is : IThings) (en : Int) : List (List Int) := (is.filter fun p => decide (en ≤ (p.2.length : Int))).map (·.1)
theorem houses_at : ∀ {is : IThings} {i : Nat} {p : List Int × List Int}, (is.map (·.1)).Nodup → is[i]? = some p → housesOf (thP is) (keyI p.1) = p.2
  | [], _, _, _, e => by simp at e
  | x :: is, 0, p, _, e => by
    cases Option.some.inj e
    show (if keyI x.1 = keyI x.1 then x.2 else _) = _
    rw [if_pos rfl]
  | x :: is, i + 1, p, nd, e => by
    rw [List.map_cons, List.nodup_cons] at nd
    have hm : p ∈ is := List.mem_of_getElem? (by simpa using e)
    show (if keyI x.1 = keyI p.1 then x.2 else housesOf (thP is) (keyI p.1)) = _
    rw [if_neg fun z => nd.1 (by rw [keyI_inj z]; exact List.mem_map_of_mem hm)]
    exact houses_at nd.2 (by simpa using e)
def sp_carried (K : PySem.W.Frag) (t : Ad) : Sp := fun vs H Q _ => ∃ p dx S en kvs is, vs = [.ref p] ∧ BoardAt t H p dx S en kvs (thP is) ∧ kvs.length < 64 ∧ (is.map (·.1)).Nodup ∧ (∀ x ∈ is, x.1 ≠ []) ∧
  ∀ (r : Addr) (vs' : List V) (ts' : List (List Int)) (H' : Hp), H r = none → Same H H' → ts'.Perm (carriedI is en) → ts'.Pairwise (fun a b => HT.lexLt a b = true) → TupsAt K H' vs' ts' → H' r = some (.lst vs') → Q (.ref r) H'
theorem tups_same {K : PySem.W.Frag} {H H' : Hp} {vs : List V} {ts : List (List Int)} (s : Same H H') (h : TupsAt K H vs ts) : TupsAt K H' vs ts := Paired.mapP h fun _ _ ⟨a, e, q⟩ => ⟨a, e, by
  rcases q with q | q
  · exact .inl (rd_same s q)
  · exact .inr q⟩
theorem tups_snoc {K : PySem.W.Frag} {H : Hp} {vs : List V} {ts : List (List Int)} {b : Addr} {u : List Int} (h : TupsAt K H vs ts) (hb : H b = some (.tup (u.map V.int))) : TupsAt K H (vs ++ [.ref b]) (ts ++ [u]) := paired_app h ⟨b, rfl, SqT.of hb⟩
section
variable {P : Program} {w : World} {K : PySem.W.Frag} {mg : Str → Option Value} {base : Heap} {t : Ad}
theorem ok_Board_houses_for (T : Txt K mg t) : FnOk P w K mg base CX0 1 t.f_Board_houses_for t.d_Board_houses_for ["self", "thing"] (sp_housesFor t) := by
  refine T.F_Board_houses_for.ok sc_Board_houses_for (fun vs H Q E h => ?_) (fun cdv A outer s H vs Q E hr h => ?_)
  · obtain ⟨p, dx, S, en, kvs, ps, b, k, rfl, _⟩ := h
    rfl
  · obtain ⟨p, dx, S, en, kvs, ps, b, k, rfl, B, hb, h64, q⟩ := h
    refine ⟨_, (@pss_one _ _ _ (ps_ret (pe_callB call_sortedI rfl T.n_sorted boot_sorted (pa_more (pe_dget2 (hu_of hr) (pe_fld (pv 0) rfl) (pv 1) (@pe_lst _ _ _ _ pa_nil) ⟨rfl, rfl, rfl, rfl⟩) pa_nil)))), ?_⟩
    refine ⟨_, rfl, p, _, dx, _, _, rfl, B.ob, T.cl_Board, T.na_Board_signers, brd_signers _ _, S, rfl, .inr ⟨kvs, B.sg⟩, _, rfl, (by show 0 ≤ sizeLine; decide), fun r hr => ?_⟩
    have s1 := same_upd (o := .lst []) hr
    refine ⟨_, .inr ⟨kvs, k, b, rd_same s1 B.sg, rfl, s1 _ _ hb, rfl⟩, ?_⟩
    rcases val_houses (k := k) B.hs with ⟨h1, h2, h3⟩ | ⟨c, h1, h2⟩
    · rw [h1]
      refine ⟨r, [], rfl, SqL.of upd_same, by decide, fun z ns hz hp hs => ?_⟩
      rw [h2] at q
      exact q z ns _ (s1.free hz) (s1.trans (same_upd hz)) hp hs upd_same
    · rw [h1]
      refine ⟨c, housesOf ps k, rfl, SqL.of (s1 _ _ h2), h64, fun z ns hz hp hs => ?_⟩
      exact q z ns _ (s1.free hz) (s1.trans (same_upd hz)) hp hs upd_same
theorem ok_Board_is_carried (T : Txt K mg t) : FnOk P w K mg base CX0 1 t.f_Board_is_carried t.d_Board_is_carried ["self", "thing"] (sp_carriedIs t) := by
  refine T.F_Board_is_carried.ok sc_Board_is_carried (fun vs H Q E h => ?_) (fun cdv A outer s H vs Q E hr h => ?_)
  · obtain ⟨p, dx, S, en, kvs, ps, b, k, rfl, _⟩ := h
    rfl
  · obtain ⟨p, dx, S, en, kvs, ps, b, k, rfl, B, hb, q⟩ := h
    refine ⟨_, (@pss_one _ _ _ (ps_ret (pe_cmpR op_ge (pe_callB call_len_seq rfl T.n_len boot_len (pa_more (pe_dget2 (hu_of hr) (pe_fld (pv 0) rfl) (pv 1) (@pe_lst _ _ _ _ pa_nil) ⟨rfl, rfl, rfl, rfl⟩) pa_nil)) (pe_fld (pv 0) rfl) (nomark _)))), ?_⟩
    refine ⟨_, rfl, p, _, dx, _, _, rfl, B.ob, T.cl_Board, T.na_Board_signers, brd_signers _ _, S, rfl, .inr ⟨kvs, B.sg⟩, _, rfl, (by show 0 ≤ sizeLine; decide), fun r hr => ?_⟩
    have s1 := same_upd (o := .lst []) hr
    refine ⟨_, .inr ⟨kvs, k, b, rd_same s1 B.sg, rfl, s1 _ _ hb, rfl⟩, ?_⟩
    rcases val_houses (k := k) B.hs with ⟨h1, h2, h3⟩ | ⟨c, h1, h2⟩
    · rw [h1]
      refine ⟨r, [], rfl, .inl (SqL.of upd_same), _, rfl, p, _, dx, _, _, rfl, s1 _ _ B.ob, T.cl_Board, T.na_Board_enough, brd_enough _ _, _, _, rfl, rfl, ?_⟩
      have := q _ s1
      rw [h2] at this
      exact this
    · rw [h1]
      refine ⟨c, _, rfl, .inl (SqL.of (s1 _ _ h2)), _, rfl, p, _, dx, _, _, rfl, s1 _ _ B.ob, T.cl_Board, T.na_Board_enough, brd_enough _ _, _, _, rfl, rfl, ?_⟩
      rw [List.length_map]
      exact q _ s1
theorem ok_Board_put (T : Txt K mg t) : FnOk P w K mg base CX0 1 t.f_Board_put t.d_Board_put ["self", "house", "thing"] (sp_put t) := by
  refine T.F_Board_put.ok sc_Board_put (fun vs H Q E h => ?_) (fun cdv A outer s H vs Q E hr h => ?_)
  · obtain ⟨p, dx, S, en, kvs, ps, b, k, h, rfl, _⟩ := h
    rfl
  · obtain ⟨p, dx, S, en, kvs, ps, b, k, h, rfl, B, hb, l1, l2, q1, q2⟩ := h
    refine ⟨_, (@pss_cons _ _ _ _ _ (ps_set (i := 3) sc_Board_put.nd rfl (Or.inl rfl) (pe_dsetdef (hu_of hr) (pe_fld (pv 0) rfl) (pv 2) (@pe_lst _ _ _ _ pa_nil) ⟨rfl, rfl, rfl, rfl⟩))
      (@pss_cons _ _ _ _ _ (ps_if (pt_cmpR op_in_seq (pv 1) (pv 3) (by with_unfolding_all rfl)) (@pss_one _ _ _ (ps_ret pe_bl)) pss_nil)
      (@pss_cons _ _ _ _ _ (ps_expr (pe_bm PySem.F.plainAttrs_list PySem.F.slot_list_append PySem.F.type_list_append mt_append (pv 3) (pa_more (pv 1) pa_nil)))
      (@pss_one _ _ _ (ps_ret (pe_cmpR op_eq (pe_callB call_len_seq rfl T.n_len boot_len (pa_more (pv 3) pa_nil)) (pe_fld (pv 0) rfl) (nomark _))))))), ?_⟩
    refine ⟨_, rfl, p, _, dx, _, _, rfl, B.ob, T.cl_Board, T.na_Board_signers, brd_signers _ _, S, rfl, .inr ⟨kvs, .inl B.sg⟩, _, rfl, (by show 0 ≤ sizeLine; decide), fun r hr => ?_⟩
    have s1 := same_upd (o := .lst []) hr
    have B1 := B.same s1
    refine ⟨kvs, k, b, B1.sg, rfl, s1 _ _ hb, small1000 l1, fun v hv => ?_, fun hv => ?_⟩
    · rcases val_houses (k := k) B1.hs with ⟨z, _⟩ | ⟨c, h1, h2⟩
      · rw [hv] at z
        cases z
      cases Option.some.inj (hv.symm.trans h1)
      refine ⟨_, rfl, _, rfl, c, _, rfl, .inl (SqL.of h2), rfl, flat_ints _, _, rfl, ite2 (fun z => ?_) (fun z => ?_)⟩
      · rw [if_neg (by decide), inV_ints] at z
        exact q1 (of_decide_eq_true z) _ s1
      rw [if_neg (by decide), inV_ints] at z
      have nh : h ∉ housesOf ps k := fun y => z (decide_eq_true y)
      have pc : p ≠ c := ne_of B1.ob h2 (by intro z; cases z)
      have Sc : S ≠ c := ne_of B1.sg h2 (by intro z; cases z)
      refine ⟨_, rfl, .inl ⟨rfl, _, SqL.of h2⟩, _, rfl, c, _, _, rfl, rfl, h2, small1000 (by rw [List.length_map]; exact l2), ?_⟩
      refine ⟨_, rfl, c, _, rfl, .inl (SqL.of upd_same), _, rfl, p, _, dx, _, _, rfl, (by rw [upd_ne pc]; exact B1.ob), T.cl_Board, T.na_Board_enough, brd_enough _ _, rfl, ?_⟩
      have G := grown (h := h) B1.hs B1.un h1
      rw [List.map_append] at G
      have e : decide (V.int (((housesOf ps k).map V.int ++ [V.int h]).length : Nat) = V.int en) = decide (((housesOf ps k).length : Int) + 1 = en) := by
        rw [List.length_append, List.length_map]
        simp
      have goal := q2 nh kvs _ ⟨by rw [upd_ne pc]; exact B1.ob, by rw [upd_ne Sc]; exact B1.sg, G, B1.un⟩ fun c' u hc cS cN => by
        have ne : c' ≠ c := fun y => by
          obtain ⟨kv, hm, ek⟩ := List.mem_map.mp (val_mem h1)
          exact cN kv hm (by rw [ek, y])
        rw [upd_ne ne]
        exact s1 _ _ hc
      have goal := goal fun _ _ _ z => z
      rw [← e] at goal
      exact goal
    · rcases val_houses (k := k) B1.hs with ⟨_, h2, h3⟩ | ⟨c, z, _⟩
      case inr => rw [hv] at z; cases z
      have rS : r ≠ S := (ne_of_none B.sg hr).symm
      have rp : r ≠ p := (ne_of_none B.ob hr).symm
      have Sp : S ≠ p := ne_of B.sg B.ob (by intro z; cases z)
      rw [putK_new _ hv]
      have hr1 : upd (upd H r (.lst [])) S (.dT (kvs ++ [(k, .ref r)])) r = some (.lst []) := by rw [upd_ne rS]; exact upd_same
      refine ⟨_, rfl, _, rfl, r, [], rfl, .inl (SqL.of hr1), rfl, rfl, _, rfl, iteF ?_⟩
      refine ⟨_, rfl, .inl ⟨rfl, _, SqL.of hr1⟩, _, rfl, r, [], _, rfl, rfl, hr1, (by show 0 < sizeLine; decide), ?_⟩
      have ob2 : upd (upd (upd H r (.lst [])) S (.dT (kvs ++ [(k, .ref r)]))) r (.lst ([] ++ [.int h])) p = some (.ins t.a_Board dx (brd S en)) := by rw [upd_ne rp.symm, upd_ne Sp.symm]; exact B1.ob
      refine ⟨_, rfl, r, _, rfl, .inl (SqL.of upd_same), _, rfl, p, _, dx, _, _, rfl, ob2, T.cl_Board, T.na_Board_enough, brd_enough _ _, rfl, ?_⟩
      have goal := q2 (by rw [h2]; simp) (kvs ++ [(k, .ref r)]) (upd (upd (upd H r (.lst [])) S (.dT (kvs ++ [(k, .ref r)]))) r (.lst ([] ++ [.int h]))) ⟨ob2, by rw [upd_ne rS.symm]; exact upd_same, by
        rw [signP_new h3]
        refine paired_app (Paired.mapP B.hs fun kv pp ⟨e1, c, e2, e3⟩ => ⟨e1, c, e2, ?_⟩) ⟨rfl, r, rfl, upd_same⟩
        rw [upd_ne (ne_of_none e3 hr), upd_ne (ne_of e3 B.sg (by intro z; cases z)), upd_ne (ne_of_none e3 hr)]
        exact e3, by
        rw [List.map_append, List.nodup_append]
        refine ⟨B.un, by simp, fun x hx y hy e => ?_⟩
        rw [List.map_cons, List.map_nil, List.mem_singleton] at hy
        rw [e, hy] at hx
        exact refs_old hr B.hs hx⟩ fun c' u hc cS _ => by
          rw [upd_ne (ne_of_none hc hr), upd_ne cS, upd_ne (ne_of_none hc hr)]
          exact hc
      have goal := goal fun c u hc z kv hm => by
        rcases List.mem_append.mp hm with y | y
        · exact z kv y
        · have y' : kv = (k, .ref r) := by simpa using y
          rw [y']
          intro w
          have w' : r = c := by simpa using w
          rw [← w', hr] at hc
          cases hc
      rw [h2] at goal
      have e : decide (V.int ((([] : List V) ++ [V.int h]).length : Nat) = V.int en) = decide ((([] : List Int).length : Int) + 1 = en) := by simp
      rw [← e] at goal
      exact goal
theorem ok_Board_carried (T : Txt K mg t) : FnOk P w K mg base CX0 2 t.f_Board_carried t.d_Board_carried ["self"] (sp_carried K t) := by
  refine T.F_Board_carried.ok sc_Board_carried (fun vs H Q E h => ?_) (fun cdv A outer s H vs Q E hr h => ?_)
  · obtain ⟨p, dx, S, en, kvs, is, rfl, _⟩ := h
    rfl
  · obtain ⟨p, dx, S, en, kvs, is, rfl, B, l64, nd, ne, q⟩ := h
    refine ⟨_, (@pss_one _ _ _ (ps_ret (pe_callB call_sortedT rfl T.n_sorted boot_sorted (pa_more (pe_thaw (pe_lcomp (N' := ["thing", "self"]) (ix := [none, some 0]) (compOk_is (by kernel_rfl)) rfl (pi_dT (pe_fld (pv 0) rfl)) (fun _ _ _ _ => (pg_name (i := 0) nd_0 rfl (Or.inl rfl) (.inr rfl))) (fun _ _ _ _ => (pif_one (pt_val (pe_meth (pv 1) T.cl_Board T.mt_Board_is_carried (ok_Board_is_carried T) (hr.mono (by decide)) T.b_Board_is_carried .nil pass0 (pa_more (pv 0) pa_nil))))) (fun _ _ _ _ => (pv 0)))) pa_nil)))), ?_⟩
    have len : kvs.length = is.length := by
      have := Paired.length B.hs
      rwa [thP, List.length_map] at this
    refine ⟨_, rfl, p, _, dx, _, _, rfl, B.ob, T.cl_Board, T.na_Board_signers, brd_signers _ _, S, kvs, rfl, B.sg, fun o => lc_dT (fun i ys σ H' => ∃ v, σ = [v, some (.ref p)] ∧ Same (upd H S (.frz o (.dT kvs))) H' ∧ TupsAt K H' ys (carriedI (is.take i) en)) ⟨none, rfl, Same.refl _, .nil⟩ ?_ ?_ ?_⟩
    · rintro i ys σ H' hi ⟨v, rfl, sm, tu⟩
      refine ⟨sm _ _ upd_same, ?_⟩
      rw [Paired.length tu, carriedI, List.length_map]
      exact len1000 (Nat.le_trans (List.length_filter_le _ _) (by rw [List.length_take]; omega))
    · rintro i kv b ys σ H' ek eb ⟨v, rfl, sm, tu⟩
      obtain ⟨pp, ep, e1, c, e2, e3⟩ := paired_get B.hs ek
      obtain ⟨x, ex, rfl⟩ : ∃ x, is[i]? = some x ∧ (keyI x.1, x.2) = pp := by
        rw [thP, List.getElem?_map] at ep
        cases hx : is[i]? with
        | none =>
          rw [hx] at ep
          cases ep
        | some x =>
          rw [hx] at ep
          exact ⟨x, rfl, Option.some.inj ep⟩
      have hfr : ∀ c u, H c = some u → c ≠ S → H' c = some u := fun c u hc cS => sm _ _ (by rw [upd_ne cS]; exact hc)
      have hS' : H' S = some (.frz o (.dT kvs)) := sm _ _ upd_same
      have R : BoardRd t H' p dx S en kvs (thP is) := ⟨hfr _ _ B.ob (ne_of B.ob B.sg (by intro z; cases z)), .inr ⟨o, hS'⟩, Paired.mapP B.hs fun _ _ ⟨a1, c, a2, a3⟩ => ⟨a1, c, a2, hfr _ _ a3 (ne_of a3 B.sg (by intro z; cases z))⟩⟩
      have hk : kv.1 = keyI x.1 := e1
      rw [hk] at eb
      have hh := houses_at nd ex
      have tk : carriedI (is.take (i + 1)) en = carriedI (is.take i) en ++ (if en ≤ (x.2.length : Int) then [x.1] else []) := by
        unfold carriedI
        rw [take_snoc ex, List.filter_append, List.map_append]
        by_cases z : en ≤ (x.2.length : Int) <;> simp [z]
      refine ⟨_, rfl, p, dx, _, rfl, R.ob, brd_no _ _ (by decide +kernel) (by decide +kernel), _, rfl, p, dx, S, en, kvs, thP is, b, keyI x.1, rfl, R, eb, fun H3 s3 => ⟨_, rfl, ?_⟩⟩
      rw [hh]
      have eb3 : H3 b = some (.tup (x.1.map V.int)) := by
        have := s3 _ _ eb
        rwa [keyI_map] at this
      refine ite2 (fun z => ?_) (fun z => ?_)
      · refine ⟨_, rfl, _, rfl, sm.trans s3, ?_⟩
        rw [tk, if_pos (of_decide_eq_true z)]
        exact tups_snoc (tups_same s3 tu) eb3
      · refine ⟨_, rfl, sm.trans s3, ?_⟩
        rw [tk, if_neg (fun y => z (decide_eq_true y)), List.append_nil]
        exact tups_same s3 tu
    · rintro ys σ H' ⟨v, rfl, sm, tu⟩ r hr
      rw [len, List.take_length] at tu
      have hS' : H' S = some (.frz o (.dT kvs)) := sm _ _ upd_same
      have rS : r ≠ S := (ne_of_none hS' hr).symm
      have keepE : ∀ c u, H' c = some u → c ≠ S → upd (upd H' r (.lst ys)) S (.dT kvs) c = some u := fun c u hc cS => by
        rw [upd_ne cS, upd_ne (ne_of_none hc hr)]
        exact hc
      refine ⟨S, o, .dT kvs, (by rw [upd_ne rS.symm]; exact hS'), (fun o' u' z => ?_), True.intro, r, ys, carriedI is en, rfl, SqL.of (by rw [upd_ne rS]; exact upd_same), ?_, ?_, ?_, ?_, fun q' vs' ts' hq _ pt ta pw => ?_⟩
      · have z' : H S = some (.frz o' u') := z
        rw [B.sg] at z'
        cases z'
      · refine Paired.mapP tu fun _ _ ⟨a, e, h⟩ => ⟨a, e, ?_⟩
        rcases h with (h | ⟨o', h⟩) | h
        · exact .inl (.inl (keepE _ _ h (ne_of h hS' (by intro z; cases z))))
        · exact .inl (.inr ⟨o', keepE _ _ h (ne_of h hS' (by intro z; cases z))⟩)
        · exact .inr h
      · rw [Paired.length tu, carriedI, List.length_map]
        exact Nat.lt_of_le_of_lt (List.length_filter_le _ _) (by omega)
      · exact nd.sublist (List.filter_sublist.map _)
      · intro u hu
        obtain ⟨x, hx, rfl⟩ := List.mem_map.mp hu
        exact ne x (List.mem_filter.mp hx).1
      · obtain ⟨n1, n2⟩ := upd_none' hq
        obtain ⟨n3, n4⟩ := upd_none' n2
        have h0 := (upd_none' (sm.free n4)).2
        refine q q' vs' ts' _ h0 (fun c u hc => ?_) pt pw (tups_same (same_upd hq) ta) upd_same
        rw [upd_ne (ne_of_none hc h0)]
        by_cases cS : c = S
        · subst cS
          rw [upd_same, ← hc, B.sg]
        · exact keepE c u (sm _ _ (by rw [upd_ne cS]; exact hc)) cS
theorem ok_Board___init__ (T : Txt K mg t) : FnOk P w K mg base CX0 1 t.f_Board___init__ t.d_Board___init__ ["self", "enough"] (sp_brinit t) := by
  refine T.F_Board___init__.ok sc_Board___init__ (fun vs H Q E h => ?_) (fun cdv A outer s H vs Q E hr h => ?_)
  · obtain ⟨x, dx, en, rfl, _⟩ := h
    rfl
  · obtain ⟨x, dx, en, rfl, hx, k⟩ := h
    refine ⟨_, (@pss_cons _ _ _ _ _ (ps_fld (pv 0) (pv 1) rfl)
      (@pss_one _ _ _ (ps_fld (pv 0) pe_dnewT rfl))), ?_⟩
    refine ⟨_, rfl, _, rfl, x, _, dx, _, rfl, hx, T.cl_Board, T.na_Board_enough, (by show 0 < 1000; decide), fun S hS => ?_⟩
    obtain ⟨Sx, hS0⟩ := upd_none' hS
    refine ⟨_, rfl, x, _, dx, _, rfl, (by rw [upd_ne (Ne.symm Sx), upd_same]), T.cl_Board, T.na_Board_signers, (by show 1 < 1000; decide), ?_⟩
    refine k S _ hS0 ⟨upd_same, by rw [upd_ne Sx]; exact upd_same, .nil, .nil⟩ fun b o e bx => ?_
    rw [upd_ne bx, upd_ne (ne_of_none e hS0), upd_ne bx]
    exact e
/-- tuples of ints that lie in the heap -/
def TupsH (H : Hp) (vs : List V) (ts : List (List Int)) : Prop := Paired (fun v t => ∃ a, v = .ref a ∧ H a = some (.tup (t.map V.int))) vs ts
theorem TupsH.same {H H' : Hp} {vs : List V} {ts : List (List Int)} (s : Same H H') (h : TupsH H vs ts) : TupsH H' vs ts := Paired.mapP h fun _ _ ⟨a, e, q⟩ => ⟨a, e, s _ _ q⟩
/-- what a house signed -/
def signedI (is : IThings) (h : Int) : List (List Int) := (is.filter fun p => decide (h ∈ p.2)).map (·.1)
def sp_thingsOf (t : Ad) : Sp := fun vs H Q _ => ∃ p dx S en kvs is h, vs = [.ref p, .int h] ∧ BoardAt t H p dx S en kvs (thP is) ∧ kvs.length < 64 ∧
  ∀ (r : Addr) (vs' : List V) (H' : Hp), H r = none → Same H H' → TupsH H' vs' (signedI is h) → H' r = some (.lst vs') → Q (.ref r) H'
theorem ok_Board_things_of (T : Txt K mg t) : FnOk P w K mg base CX0 2 t.f_Board_things_of t.d_Board_things_of ["self", "house"] (sp_thingsOf t) := by
  refine T.F_Board_things_of.ok sc_Board_things_of (fun vs H Q E h => ?_) (fun cdv A outer s H vs Q E hr h => ?_)
  · obtain ⟨p, dx, S, en, kvs, is, h, rfl, _⟩ := h
    rfl
  · obtain ⟨p, dx, S, en, kvs, is, h, rfl, B, l64, q⟩ := h
    refine ⟨_, (@pss_one _ _ _ (ps_ret (pe_thaw (pe_lcomp (N' := ["thing", "houses", "house"]) (ix := [none, none, some 1]) (compOk_is (by kernel_rfl)) rfl (pi_iT (pe_bm0 PySem.F.plainAttrs_dict PySem.F.slot_dict_items PySem.F.type_dict_items mt_itemsT (pe_fld (pv 0) rfl))) (fun _ _ _ _ => (pg_tupK (K := K) (t := (gCons (gName 0) (gCons (gName 1) gNil))) rfl rfl 2 (pgs_cons (pg_name (i := 0) nd_1 rfl (Or.inl rfl) (.inr rfl)) (pgs_cons (pg_name (i := 1) nd_1 rfl (Or.inl rfl) (.inr rfl)) pgs_nil)) rfl rfl)) (fun _ _ _ _ => (pif_one (pt_cmpR (op_in_seqK (K := K) rfl) (pv 2) (pv 1) (by with_unfolding_all rfl)))) (fun _ _ _ _ => (pv 0)))))), ?_⟩
    have len : kvs.length = is.length := by
      have := Paired.length B.hs
      rwa [thP, List.length_map] at this
    refine ⟨_, rfl, p, _, dx, _, _, rfl, B.ob, T.cl_Board, T.na_Board_signers, brd_signers _ _, ?_⟩
    refine ⟨.inr (.inr (.inl ⟨rfl, .inr ⟨_, B.sg⟩⟩)), S, kvs, rfl, rfl, B.sg, fun vw hvw => ?_⟩
    have sv := same_upd (o := ViewI vw S) hvw
    have B1 := B.same sv
    have gv : upd H vw (ViewI vw S) vw = some (ViewI vw S) := upd_same
    have nS : S ≠ vw := ne_of_none B.sg hvw
    generalize upd H vw (ViewI vw S) = H1 at sv B1 gv
    refine ⟨vw, S, kvs, rfl, gv, B1.sg, fun o => lc_iT (fun i ys σ H' => ∃ v0 v1, σ = [v0, v1, some (.int h)] ∧ Same (upd H1 S (.frz o (.dT kvs))) H' ∧ TupsH H' ys (signedI (is.take i) h)) ⟨none, none, rfl, Same.refl _, .nil⟩ ?_ ?_ ?_⟩
    · rintro i ys σ H' hi ⟨v0, v1, rfl, sm, tu⟩
      refine ⟨sm _ _ upd_same, ?_⟩
      rw [Paired.length tu, signedI, List.length_map]
      exact len1000 (Nat.le_trans (List.length_filter_le _ _) (by rw [List.length_take]; omega))
    · rintro i kv b q1 ys σ H' ek eb hq1 ⟨v0, v1, rfl, sm, tu⟩
      obtain ⟨pp, ep, e1, c, e2, e3⟩ := paired_get B1.hs ek
      obtain ⟨x, ex, rfl⟩ : ∃ x, is[i]? = some x ∧ (keyI x.1, x.2) = pp := by
        rw [thP, List.getElem?_map] at ep
        cases hx : is[i]? with
        | none =>
          rw [hx] at ep
          cases ep
        | some x =>
          rw [hx] at ep
          exact ⟨x, rfl, Option.some.inj ep⟩
      have hk : kv.1 = keyI x.1 := e1
      have e2' : kv.2 = .ref c := e2
      rw [hk, keyI_map] at eb
      have sq := same_upd (o := .tup [.ref b, kv.2]) hq1
      have hc : H' c = some (.lst (x.2.map V.int)) := sm _ _ (by rw [upd_ne (ne_of e3 B1.sg (by intro z; cases z))]; exact e3)
      have tk : signedI (is.take (i + 1)) h = signedI (is.take i) h ++ (if h ∈ x.2 then [x.1] else []) := by
        unfold signedI
        rw [take_snoc ex, List.filter_append, List.map_append]
        by_cases z : h ∈ x.2 <;> simp [z]
      refine ⟨q1, _, rfl, SqT.of upd_same, rfl, _, _, rfl, _, _, rfl, rfl, ?_⟩
      rw [e2'] at sq ⊢
      refine ⟨_, rfl, _, rfl, c, _, rfl, .inl (SqL.of (sq _ _ hc)), rfl, flat_ints _, _, rfl, ite2 (fun z => ?_) (fun z => ?_)⟩
      · rw [if_neg (by decide), inV_ints] at z
        refine ⟨_, rfl, _, _, rfl, sm.trans sq, ?_⟩
        rw [tk, if_pos (of_decide_eq_true z)]
        exact paired_app (TupsH.same sq tu) ⟨b, rfl, sq _ _ eb⟩
      · rw [if_neg (by decide), inV_ints] at z
        refine ⟨_, _, rfl, sm.trans sq, ?_⟩
        rw [tk, if_neg (fun y => z (decide_eq_true y)), List.append_nil]
        exact TupsH.same sq tu
    · rintro ys σ H' ⟨v0, v1, rfl, sm, tu⟩ r hr
      rw [len, List.take_length] at tu
      have hS' : H' S = some (.frz o (.dT kvs)) := sm _ _ upd_same
      have rS : r ≠ S := (ne_of_none hS' hr).symm
      refine ⟨S, o, .dT kvs, (by rw [upd_ne rS.symm]; exact hS'), (fun o' u' z => ?_), True.intro, ?_⟩
      · have z' : H S = some (.frz o' u') := z
        rw [B.sg] at z'
        cases z'
      · have rH1 : H1 r = none := by
          cases e : H1 r with
          | none => rfl
          | some u =>
            have := sm r u (by rw [upd_ne rS]; exact e)
            rw [hr] at this
            cases this
        refine q r ys _ (sv.free rH1) (fun c u hc => ?_) (Paired.mapP tu fun _ _ ⟨a, e, ha⟩ => ⟨a, e, ?_⟩) (by rw [upd_ne rS, upd_same])
        · have h1 := sv _ _ hc
          by_cases z : c = S
          · subst z
            rw [B1.sg] at h1
            rw [upd_same, h1]
          · rw [upd_ne z, upd_ne (ne_of_none h1 rH1)]
            exact sm _ _ (by rw [upd_ne z]; exact h1)
        · rw [upd_ne (ne_of ha hS' (by intro z; cases z)), upd_ne (ne_of_none ha hr)]
          exact ha
/-! ### rows of cheats -/
def CheatsAt (K : PySem.W.Frag) (H : Hp) (a : Addr) (ks : List Int) : Prop := H a = some (.lst (ks.map V.int)) ∨ (ks = [] ∧ SqT K H a [])
def sp_rising (K : PySem.W.Frag) : Sp := fun vs H Q _ => ∃ a b ks, vs = [.ref a, .int b] ∧ CheatsAt K H a ks ∧ ks.Pairwise (· < ·) ∧ (∀ k ∈ ks, 0 ≤ k ∧ k < b) ∧ Q (.bl true) H
theorem ok_are_rising (T : Txt K mg t) : FnOk P w K mg base CX0 3 t.f_are_rising t.d_are_rising ["things", "bound"] (sp_rising K) := by
  refine T.F_are_rising.ok sc_are_rising (fun vs H Q E h => ?_) (fun cdv A outer s H vs Q E hr h => ?_)
  · obtain ⟨a, b, ks, rfl, _⟩ := h
    rfl
  · obtain ⟨a, b, ks, rfl, hc, up, rg, k⟩ := h
    refine ⟨_, (@pss_cons _ _ _ _ _ (ps_set (i := 2) sc_are_rising.nd rfl (Or.inl rfl) pe_int)
      (@pss_cons _ _ _ _ _ (ps_for PassesOwn.never rfl (pi_seq (pv 0)) (pg_name (i := 3) sc_are_rising.nd rfl (Or.inl rfl)) (@pss_cons _ _ _ _ _ (ps_if (pt_not (pt_val (pe_call (ok_is_between T) (hr.mono (by decide)) rfl T.m_is_between T.F_is_between.kp T.b_is_between .nil pass0 (@pa_3 _ _ _ _ _ _ _ (pv 3) (pv 2) (pe_op op_sub (pv 1) pe_int) rfl rfl rfl)))) (@pss_one _ _ _ (ps_ret pe_bl)) pss_nil)
      (@pss_one _ _ _ (ps_set (i := 2) sc_are_rising.nd rfl (Or.inl rfl) (pe_op op_add (pv 3) pe_int)))))
      (@pss_one _ _ _ (ps_ret pe_bl)))), ?_⟩
    rcases hc with ha | ⟨rfl, ha⟩
    · refine .inl ⟨_, rfl, a, rfl, ⟨_, SqL.of ha⟩, for_list (K := K) (a := a) (xs := ks.map V.int) (fun i σ H' => ∃ v l, σ = [some (.ref a), some (.int b), some (.int l), v] ∧ H' = H ∧ ∀ z ∈ ks.drop i, l ≤ z) ⟨none, 0, rfl, rfl, fun z hz => (rg z hz).1⟩ (fun i σ H' _ ⟨_, _, _, e, _⟩ => SqL.of (by rw [e]; exact ha)) ?_ ?_⟩
      · rintro i x σ H' hx ⟨v, l, rfl, rfl, hl⟩
        obtain ⟨z, ez, rfl⟩ : ∃ z, ks[i]? = some z ∧ x = .int z := by
          rw [List.getElem?_map] at hx
          cases e : ks[i]? with
          | none => rw [e] at hx; cases hx
          | some z => rw [e] at hx; exact ⟨z, rfl, (Option.some.inj hx).symm⟩
        obtain ⟨hi, ez'⟩ := List.getElem?_eq_some_iff.mp ez
        have r := rg z (List.mem_of_getElem? ez)
        have lz : l ≤ z := hl z (by rw [List.drop_eq_getElem_cons hi, ez']; simp)
        refine ⟨_, rfl, _, rfl, _, rfl, _, _, rfl, rfl, _, _, _, rfl, ?_⟩
        rw [decide_eq_true ⟨lz, (by omega : z ≤ b - 1)⟩]
        refine ⟨_, rfl, iteF ?_⟩
        refine ⟨_, rfl, _, _, rfl, rfl, _, _, rfl, rfl, fun y hy => ?_⟩
        obtain ⟨j, hj, e⟩ := List.mem_iff_getElem.mp hy
        rw [List.length_drop] at hj
        rw [List.getElem_drop] at e
        have := List.pairwise_iff_getElem.mp up i (i + 1 + j) hi (by omega) (by omega)
        rw [ez', e] at this
        omega
      · rintro σ H' ⟨v, l, rfl, rfl, _⟩
        exact k
    · refine .inr ⟨_, rfl, a, rfl, ⟨_, ha⟩, for_tup (K := K) (a := a) (xs := []) (fun i σ H' => ∃ v, σ = [some (.ref a), some (.int b), some (.int 0), v] ∧ H' = H) ⟨none, rfl, rfl⟩ (fun i σ H' _ ⟨_, _, e⟩ => by rw [e]; exact ha) (fun i x σ H' hx _ => by simp at hx) ?_⟩
      rintro σ H' ⟨v, rfl, rfl⟩
      exact k
theorem ok_is_rising_row (T : Txt K mg t) : FnOk P w K mg base CX0 4 t.f_is_rising_row t.d_is_rising_row ["thing", "bound"] (fun vs H Q _ => ∃ a b ks, vs = [.ref a, .int b] ∧ CheatsAt K H a ks ∧ ks.Pairwise (· < ·) ∧ (∀ k ∈ ks, 0 ≤ k ∧ k < b) ∧ ∀ H', Same H H' → Q (.bl true) H') := by
  refine T.F_is_rising_row.ok sc_is_rising_row (fun vs H Q E h => ?_) (fun cdv A outer s H vs Q E hr h => ?_)
  · obtain ⟨a, b, ks, rfl, _⟩ := h
    rfl
  · obtain ⟨a, b, ks, rfl, hc, up, rg, k⟩ := h
    refine ⟨_, (@pss_one _ _ _ (ps_ret (pe_and (pe_callB call_isSeq rfl T.n_isinstance boot_isinstance (@pa_2 _ _ _ _ _ (pv 0) (@pe_tup _ _ _ _ _ (@pa_2 _ _ _ _ _ (pe_bltn (v := .ty "list") rfl T.n_list boot_list rfl) (pe_bltn (v := .ty "tuple") rfl T.n_tuple boot_tuple rfl) rfl rfl)) rfl rfl)) (pe_one (pe_call (ok_are_rising T) (hr.mono (by decide)) rfl T.m_are_rising T.F_are_rising.kp T.b_are_rising .nil pass0 (@pa_2 _ _ _ _ _ (pv 0) (pv 1) rfl rfl)))))), ?_⟩
    refine ⟨_, rfl, (by show 2 ≤ sizeLine; decide), fun q hq => ?_⟩
    have s1 := same_upd (o := .tup [.ty "list", .ty "tuple"]) hq
    have hc1 : CheatsAt K (upd H q (.tup [.ty "list", .ty "tuple"])) a ks := by
      rcases hc with h | ⟨e, h⟩
      · exact .inl (s1 _ _ h)
      · refine .inr ⟨e, ?_⟩
        rcases h with h | h
        · exact .inl (rd_same s1 h)
        · exact .inr h
    refine ⟨a, q, rfl, upd_same, ?_, ?_⟩
    · rcases hc1 with h | ⟨_, h⟩
      · exact .inl ⟨_, SqL.of h⟩
      · exact .inr ⟨_, h⟩
    exact ⟨_, rfl, iteT ⟨_, rfl, _, rfl, a, b, ks, rfl, hc1, up, rg, k _ s1⟩⟩
theorem ok_check_owners (T : Txt K mg t) : FnOk P w K mg base CX0 5 t.f_check_owners t.d_check_owners ["owners", "need", "cheats"] (fun vs H Q _ => ∃ ow nd a ks, vs = [.int ow, .int nd, .ref a] ∧ 1 ≤ ow ∧ ow ≤ 6 ∧ 1 ≤ nd ∧ nd ≤ ow ∧ CheatsAt K H a ks ∧ ks.Pairwise (· < ·) ∧ (∀ k ∈ ks, 0 ≤ k ∧ k < ow) ∧ ∀ H', Same H H' → Q .non H') := by
  refine T.F_check_owners.ok sc_check_owners (fun vs H Q E h => ?_) (fun cdv A outer s H vs Q E hr h => ?_)
  · obtain ⟨ow, nd, a, ks, rfl, _⟩ := h
    rfl
  · obtain ⟨ow, nd, a, ks, rfl, o1, o6, n1, n2, hc, up, rg, k⟩ := h
    refine ⟨_, (@pss_cons _ _ _ _ _ (ps_if (pt_not (pt_val (pe_call (ok_is_between T) (hr.mono (by decide)) rfl T.m_is_between T.F_is_between.kp T.b_is_between .nil pass0 (@pa_3 _ _ _ _ _ _ _ (pv 0) pe_int (pe_glob (v := .int 6) rfl T.c_MOST_OWNERS.choose_spec ⟨_, rfl⟩) rfl rfl rfl)))) (@pss_one _ _ _ (ps_never)) pss_nil)
      (@pss_cons _ _ _ _ _ (ps_if (pt_not (pt_val (pe_call (ok_is_between T) (hr.mono (by decide)) rfl T.m_is_between T.F_is_between.kp T.b_is_between .nil pass0 (@pa_3 _ _ _ _ _ _ _ (pv 1) pe_int (pv 0) rfl rfl rfl)))) (@pss_one _ _ _ (ps_never)) pss_nil)
      (@pss_one _ _ _ (ps_if (pt_not (pt_val (pe_call (ok_is_rising_row T) (hr.mono (by decide)) rfl T.m_is_rising_row T.F_is_rising_row.kp T.b_is_rising_row .nil pass0 (@pa_2 _ _ _ _ _ (pv 2) (pv 0) rfl rfl)))) (@pss_one _ _ _ (ps_never)) pss_nil)))), ?_⟩
    refine ⟨_, rfl, _, _, _, rfl, ?_⟩
    rw [decide_eq_true ⟨o1, o6⟩]
    refine ⟨_, rfl, iteF ?_⟩
    refine ⟨_, rfl, _, rfl, _, _, _, rfl, ?_⟩
    rw [decide_eq_true ⟨n1, n2⟩]
    refine ⟨_, rfl, iteF ?_⟩
    exact ⟨_, rfl, _, rfl, a, ow, ks, rfl, hc, up, rg, fun H1 s1 => ⟨_, rfl, iteF (k _ s1)⟩⟩
theorem ok_check_order (T : Txt K mg t) : FnOk P w K mg base CX0 4 t.f_check_order t.d_check_order ["order"] (fun vs H Q _ => ∃ a o, vs = [.ref a] ∧ H a = some (.tup (ordV o)) ∧ isOrd 8 o = true ∧ Q .non H) := by
  refine T.F_check_order.ok sc_check_order (fun vs H Q E h => ?_) (fun cdv A outer s H vs Q E hr h => ?_)
  · obtain ⟨a, o, rfl, _⟩ := h
    rfl
  · obtain ⟨a, o, rfl, ha, ho, k⟩ := h
    refine ⟨_, (@pss_one _ _ _ (ps_if (pt_not (pt_val (pe_call (ok_is_order T) (hr.mono (by decide)) rfl T.m_is_order T.F_is_order.kp T.bd0_is_order.choose_spec (show Vals [.int 8] _ from .cons ⟨_, rfl⟩ .nil) pass0 (pa_more (pv 0) pa_nil)))) (@pss_one _ _ _ (ps_never)) pss_nil)), ?_⟩
    refine ⟨_, rfl, a, o, 8, rfl, ha, ?_⟩
    rw [ho]
    exact ⟨_, rfl, iteF k⟩
/-! ### a joint purse -/
def jf (pu ow : Int) (C B : Addr) : List (Str × V) := putF "board" (.ref B) (putF "cheating" (.ref C) (putF "owners" (.int ow) (putF "purse" (.int pu) [])))
theorem jf_board (pu ow : Int) (C B : Addr) : (jf pu ow C B).lookup ("board" : Str) = some (.ref B) := by
  unfold jf
  rw [lookup_putF, if_pos rfl]
theorem jf_cheating (pu ow : Int) (C B : Addr) : (jf pu ow C B).lookup ("cheating" : Str) = some (.ref C) := by
  unfold jf
  rw [lookup_putF, if_neg (by decide +kernel), lookup_putF, if_pos rfl]
theorem jf_owners (pu ow : Int) (C B : Addr) : (jf pu ow C B).lookup ("owners" : Str) = some (.int ow) := by
  unfold jf
  rw [lookup_putF, if_neg (by decide +kernel), lookup_putF, if_neg (by decide +kernel), lookup_putF, if_pos rfl]
theorem jf_purse (pu ow : Int) (C B : Addr) : (jf pu ow C B).lookup ("purse" : Str) = some (.int pu) := by
  unfold jf
  rw [lookup_putF, if_neg (by decide +kernel), lookup_putF, if_neg (by decide +kernel), lookup_putF, if_neg (by decide +kernel), lookup_putF, if_pos rfl]
theorem jf_no (pu ow : Int) (C B : Addr) {m : Str} (h1 : ¬ m = "board") (h2 : ¬ m = "cheating") (h3 : ¬ m = "owners") (h4 : ¬ m = "purse") : (jf pu ow C B).lookup m = none := by
  unfold jf
  rw [lookup_putF, if_neg h1, lookup_putF, if_neg h2, lookup_putF, if_neg h3, lookup_putF, if_neg h4]
  rfl
def ordI (o : O) : List Int := [o.p, o.n, o.g, o.m]
structure JointAt (t : Ad) (H : Hp) (j dj : Addr) (pu ow en : Int) (C B : Addr) (ks : List Int) (dB S : Addr) (kvs : List (List Key × V)) (is : IThings) : Prop where
  ob : H j = some (.ins t.a_Joint dj (jf pu ow C B))
  ch : H C = some (.lst (ks.map V.int))
  bd : BoardAt t H B dB S en kvs (thP is)
  ni : NotIn kvs C
def sp_jsure (t : Ad) : Sp := fun vs H Q _ => ∃ j dj pu ow en C B ks dB S kvs is, vs = [.ref j] ∧ JointAt t H j dj pu ow en C B ks dB S kvs is ∧ Q (.bl (decide (0 < en - ks.length ∧ ow - ks.length < 2 * (en - ks.length)))) H
theorem ok_Joint_is_sure (T : Txt K mg t) : FnOk P w K mg base CX0 1 t.f_Joint_is_sure t.d_Joint_is_sure ["self"] (sp_jsure t) := by
  refine T.F_Joint_is_sure.ok sc_Joint_is_sure (fun vs H Q E h => ?_) (fun cdv A outer s H vs Q E hr h => ?_)
  · obtain ⟨j, dj, pu, ow, en, C, B, ks, dB, S, kvs, is, rfl, _⟩ := h
    rfl
  · obtain ⟨j, dj, pu, ow, en, C, B, ks, dB, S, kvs, is, rfl, J, k⟩ := h
    refine ⟨_, (@pss_cons _ _ _ _ _ (ps_set (i := 1) sc_Joint_is_sure.nd rfl (Or.inl rfl) (pe_op op_sub (pe_fld (pe_fld (pv 0) rfl) rfl) (pe_callB call_len_seq rfl T.n_len boot_len (pa_more (pe_fld (pv 0) rfl) pa_nil))))
      (@pss_one _ _ _ (ps_ret (pe_and (pe_cmpR op_gt (pv 1) pe_int (nomark _)) (pe_one (pe_cmpR op_gt (pe_op op_mul pe_int (pv 1)) (pe_op op_sub (pe_fld (pv 0) rfl) (pe_callB call_len_seq rfl T.n_len boot_len (pa_more (pe_fld (pv 0) rfl) pa_nil))) (nomark _))))))), ?_⟩
    have lm : (ks.map V.int).length = ks.length := List.length_map ..
    refine ⟨_, rfl, j, _, dj, _, _, rfl, J.ob, T.cl_Joint, T.na_Joint_board, jf_board _ _ _ _, B, _, dB, _, _, rfl, J.bd.ob, T.cl_Board, T.na_Board_enough, brd_enough _ _, _, rfl, j, _, dj, _, _, rfl, J.ob, T.cl_Joint, T.na_Joint_cheating, jf_cheating _ _ _ _, C, _, rfl, .inl (SqL.of J.ch), _, _, rfl, rfl, ?_⟩
    rw [lm]
    refine ⟨_, rfl, _, _, rfl, rfl, _, rfl, ite2 (fun h1 => ?_) (fun h1 => ?_)⟩
    · have e1 : 0 < en - (ks.length : Int) := of_decide_eq_true h1
      refine ⟨_, rfl, _, _, rfl, rfl, .inl ⟨by decide, by decide⟩, _, rfl, j, _, dj, _, _, rfl, J.ob, T.cl_Joint, T.na_Joint_owners, jf_owners _ _ _ _, _, rfl, j, _, dj, _, _, rfl, J.ob, T.cl_Joint, T.na_Joint_cheating, jf_cheating _ _ _ _, C, _, rfl, .inl (SqL.of J.ch), _, _, rfl, rfl, _, _, rfl, rfl, ?_⟩
      rw [lm]
      have e2 : decide (0 < en - (ks.length : Int) ∧ ow - (ks.length : Int) < 2 * (en - ks.length)) = decide (2 * (en - (ks.length : Int)) > ow - ks.length) := by
        rw [Bool.eq_iff_iff, decide_eq_true_iff, decide_eq_true_iff]
        omega
      rw [e2] at k
      exact k
    · have e1 : ¬ 0 < en - (ks.length : Int) := fun z => h1 (decide_eq_true z)
      rw [decide_eq_false (fun z => e1 z.1)] at k
      exact k
def sp_jready (K : PySem.W.Frag) (t : Ad) : Sp := fun vs H Q _ => ∃ j dj pu ow en C B ks dB S kvs is, vs = [.ref j] ∧ JointAt t H j dj pu ow en C B ks dB S kvs is ∧ kvs.length < 64 ∧ (is.map (·.1)).Nodup ∧ (∀ x ∈ is, x.1 ≠ []) ∧
  ∀ (r : Addr) (vs' : List V) (ts' : List (List Int)) (H' : Hp), H r = none → Same H H' → ts'.Perm (carriedI is en) → ts'.Pairwise (fun a b => HT.lexLt a b = true) → TupsAt K H' vs' ts' → H' r = some (.lst vs') → Q (.ref r) H'
theorem ok_Joint_ready (T : Txt K mg t) : FnOk P w K mg base CX0 3 t.f_Joint_ready t.d_Joint_ready ["self"] (sp_jready K t) := by
  refine T.F_Joint_ready.ok sc_Joint_ready (fun vs H Q E h => ?_) (fun cdv A outer s H vs Q E hr h => ?_)
  · obtain ⟨j, dj, pu, ow, en, C, B, ks, dB, S, kvs, is, rfl, _⟩ := h
    rfl
  · obtain ⟨j, dj, pu, ow, en, C, B, ks, dB, S, kvs, is, rfl, J, l, nd, ne, k⟩ := h
    refine ⟨_, (@pss_one _ _ _ (ps_ret (pe_meth0 (pe_fld (pv 0) rfl) T.cl_Board T.mt_Board_carried (ok_Board_carried T) (hr.mono (by decide)) T.b_Board_carried .nil pass0))), ?_⟩
    exact ⟨_, rfl, j, _, dj, _, _, rfl, J.ob, T.cl_Joint, T.na_Joint_board, jf_board _ _ _ _, B, dB, _, rfl, J.bd.ob, brd_no _ _ (by decide +kernel) (by decide +kernel), B, dB, S, en, kvs, is, rfl, J.bd, l, nd, ne, k⟩
def sp_jsigned (t : Ad) : Sp := fun vs H Q _ => ∃ j dj pu ow en C B ks dB S kvs is a o, vs = [.ref j, .ref a] ∧ JointAt t H j dj pu ow en C B ks dB S kvs is ∧ H a = some (.tup (ordV o)) ∧ isOrd 8 o = true ∧ (housesOf (thP is) (keyI (ordI o))).length < 64 ∧
  ∀ (r : Addr) (ns : List Int) (H' : Hp), H r = none → Same H H' → ns.Perm (housesOf (thP is) (keyI (ordI o))) → ns.Pairwise (· ≤ ·) → H' r = some (.lst (ns.map V.int)) → Q (.ref r) H'
theorem ordV_key (o : O) : ordV o = (keyI (ordI o)).map kV := by
  rw [keyI_map]
  rfl
theorem ok_Joint_signed (T : Txt K mg t) : FnOk P w K mg base CX0 5 t.f_Joint_signed t.d_Joint_signed ["self", "order"] (sp_jsigned t) := by
  refine T.F_Joint_signed.ok sc_Joint_signed (fun vs H Q E h => ?_) (fun cdv A outer s H vs Q E hr h => ?_)
  · obtain ⟨j, dj, pu, ow, en, C, B, ks, dB, S, kvs, is, a, o, rfl, _⟩ := h
    rfl
  · obtain ⟨j, dj, pu, ow, en, C, B, ks, dB, S, kvs, is, a, o, rfl, J, ha, ho, l, k⟩ := h
    refine ⟨_, (@pss_cons _ _ _ _ _ (ps_expr (pe_call (ok_check_order T) (hr.mono (by decide)) rfl T.m_check_order T.F_check_order.kp T.b_check_order .nil pass0 (pa_more (pv 1) pa_nil)))
      (@pss_one _ _ _ (ps_ret (pe_meth (pe_fld (pv 0) rfl) T.cl_Board T.mt_Board_houses_for (ok_Board_houses_for T) (hr.mono (by decide)) T.b_Board_houses_for .nil pass0 (pa_more (pv 1) pa_nil))))), ?_⟩
    refine ⟨_, rfl, a, o, rfl, ha, ho, ?_⟩
    exact ⟨_, rfl, j, _, dj, _, _, rfl, J.ob, T.cl_Joint, T.na_Joint_board, jf_board _ _ _ _, B, dB, _, rfl, J.bd.ob, brd_no _ _ (by decide +kernel) (by decide +kernel), _, rfl, B, dB, S, en, kvs, thP is, a, keyI (ordI o), rfl, J.bd.rd, (by rw [← ordV_key]; exact ha), l, k⟩
/-- the things of a joint purse's board are orders -/
def isO (js : List (O × List Int)) : IThings := js.map fun p => (ordI p.1, p.2)
def signedO (js : List (O × List Int)) (h : Int) : List O := (js.filter fun p => decide (h ∈ p.2)).map (·.1)
theorem signed_isO (js : List (O × List Int)) (h : Int) : signedI (isO js) h = (signedO js h).map ordI := by
  unfold signedI isO signedO
  rw [List.filter_map, List.map_map, List.map_map]
  rfl
theorem tupsH_ords {H : Hp} : ∀ {vs : List V} {os : List O}, TupsH H vs (os.map ordI) → OrdsAt H vs os
  | [], [], _ => .nil
  | v :: vs, o :: os, .cons ⟨a, e, h⟩ r => .cons ⟨a, e, h⟩ (tupsH_ords r)
def clashB (o u : O) : Bool := decide (o ≠ u ∧ o.p = u.p ∧ o.n = u.n)
def sp_jother (t : Ad) : Sp := fun vs H Q _ => ∃ j dj pu ow en C B ks dB S kvs js h a o, vs = [.ref j, .int h, .ref a] ∧ JointAt t H j dj pu ow en C B ks dB S kvs (isO js) ∧ kvs.length < 64 ∧ H a = some (.tup (ordV o)) ∧ isOrd 8 o = true ∧ (∀ p ∈ js, isOrd 8 p.1 = true) ∧
  ∀ H', Same H H' → Q (.bl ((signedO js h).any (clashB o))) H'
theorem ok_Joint_has_other (T : Txt K mg t) : FnOk P w K mg base CX0 6 t.f_Joint_has_other t.d_Joint_has_other ["self", "owner", "order"] (sp_jother t) := by
  refine T.F_Joint_has_other.ok sc_Joint_has_other (fun vs H Q E h => ?_) (fun cdv A outer s H vs Q E hr h => ?_)
  · obtain ⟨j, dj, pu, ow, en, C, B, ks, dB, S, kvs, js, h, a, o, rfl, _⟩ := h
    rfl
  · obtain ⟨j, dj, pu, ow, en, C, B, ks, dB, S, kvs, js, h, a, o, rfl, J, l64, ha, ho, hall, k⟩ := h
    refine ⟨_, (@pss_one _ _ _ (ps_ret (pe_callB (call_any rfl) rfl T.n_any boot_any (pa_more (pe_lcomp (N' := ["other", "order"]) (ix := [none, some 2]) (compOk_is (by kernel_rfl)) rfl (@pi_list _ _ _ _ (pe_meth (pe_fld (pv 0) rfl) T.cl_Board T.mt_Board_things_of (ok_Board_things_of T) (hr.mono (by decide)) T.b_Board_things_of .nil pass0 (pa_more (pv 1) pa_nil))) (fun _ _ _ _ => (pg_name (i := 0) nd_2 rfl (Or.inl rfl) (.inr rfl))) (fun _ _ _ _ => pif_nil) (fun _ _ _ _ => (pe_call (ok_clash T) (hr.mono (by decide)) rfl T.m_clash T.F_clash.kp T.b_clash .nil pass0 (@pa_2 _ _ _ _ _ (pv 1) (pv 0) rfl rfl)))) pa_nil)))), ?_⟩
    refine ⟨_, rfl, j, _, dj, _, _, rfl, J.ob, T.cl_Joint, T.na_Joint_board, jf_board _ _ _ _, B, dB, _, rfl, J.bd.ob, brd_no _ _ (by decide +kernel) (by decide +kernel), _, rfl, B, dB, S, en, kvs, isO js, h, rfl, J.bd, l64, fun r vs' H1 nr s1 tu gr => ?_⟩
    rw [signed_isO] at tu
    have hos := tupsH_ords tu
    have lo := Paired.length hos
    have lsg : (signedO js h).length ≤ js.length := by
      unfold signedO
      rw [List.length_map]
      exact List.length_filter_le ..
    have ljs : kvs.length = js.length := by
      have := Paired.length J.bd.hs
      rwa [thP, List.length_map, isO, List.length_map] at this
    refine ⟨r, rfl, ⟨_, SqL.of gr⟩, lc_list (K := K) (a := r) (xs := vs') (fun i ys σ' H' => ∃ v, σ' = [v, some (.ref a)] ∧ Same H1 H' ∧ ys = (((signedO js h).take i).map (clashB o)).map V.bl) ⟨none, rfl, Same.refl _, rfl⟩ ?_ ?_ ?_⟩
    · rintro i ys σ' H' hi ⟨v, rfl, s', rfl⟩
      refine ⟨SqL.of (s' _ _ gr), len1000 ?_⟩
      rw [List.length_map, List.length_map, List.length_take]
      omega
    · rintro i x ys σ' H' hx ⟨v, rfl, s', rfl⟩
      obtain ⟨u, eu, hxu⟩ := ords_get hos hx
      obtain ⟨c, rfl, hc⟩ := OrdAt.same s' hxu
      have hu : isOrd 8 u = true := by
        have := List.mem_of_getElem? eu
        unfold signedO at this
        obtain ⟨p, hp, rfl⟩ := List.mem_map.mp this
        exact hall p (List.mem_filter.mp hp).1
      refine tYes_intro ?_
      refine ⟨_, rfl, _, rfl, a, c, o, u, rfl, s' _ _ (s1 _ _ ha), hc, ho, hu, fun H2 s2 => ⟨_, rfl, s'.trans s2, ?_⟩⟩
      rw [take_snoc eu, List.map_append, List.map_append]
      rfl
    · rintro ys σ' H' ⟨v, rfl, s', rfl⟩ p hp
      rw [lo, List.take_length]
      refine ⟨p, (signedO js h).map (clashB o), rfl, SqL.of upd_same, ?_⟩
      have := k _ ((s1.trans s').trans (same_upd (o := .lst (((signedO js h).map (clashB o)).map V.bl)) hp))
      have e : ((signedO js h).map (clashB o)).any id = (signedO js h).any (clashB o) := by rw [List.any_map]; rfl
      rw [e]
      exact this
def housesJ : List (O × List Int) → O → List Int
  | [], _ => []
  | p :: js, o => if p.1 = o then p.2 else housesJ js o
def signJ : List (O × List Int) → O → Int → List (O × List Int)
  | [], o, h => [(o, [h])]
  | p :: js, o, h => if p.1 = o then (p.1, p.2 ++ [h]) :: js else p :: signJ js o h
theorem ordI_inj {o u : O} (h : ordI o = ordI u) : o = u := by
  obtain ⟨_, _, _, _⟩ := o
  obtain ⟨_, _, _, _⟩ := u
  simpa [ordI] using h
theorem key_inj {o u : O} : keyI (ordI o) = keyI (ordI u) ↔ o = u := ⟨fun h => ordI_inj (keyI_inj h), fun h => by rw [h]⟩
theorem houses_J (o : O) : ∀ js : List (O × List Int), housesOf (thP (isO js)) (keyI (ordI o)) = housesJ js o
  | [] => rfl
  | p :: js => by
    show (if keyI (ordI p.1) = keyI (ordI o) then p.2 else housesOf (thP (isO js)) (keyI (ordI o))) = _
    rw [houses_J o js, housesJ]
    by_cases e : p.1 = o
    · rw [if_pos (key_inj.mpr e), if_pos e]
    · rw [if_neg (fun z => e (key_inj.mp z)), if_neg e]
theorem sign_J (o : O) (h : Int) : ∀ js : List (O × List Int), signP (thP (isO js)) (keyI (ordI o)) h = thP (isO (signJ js o h))
  | [] => rfl
  | p :: js => by
    show (if keyI (ordI p.1) = keyI (ordI o) then (keyI (ordI p.1), p.2 ++ [h]) :: thP (isO js) else (keyI (ordI p.1), p.2) :: signP (thP (isO js)) (keyI (ordI o)) h) = _
    rw [sign_J o h js, signJ]
    by_cases e : p.1 = o
    · rw [if_pos (key_inj.mpr e), if_pos e]
      rfl
    · rw [if_neg (fun z => e (key_inj.mp z)), if_neg e]
      rfl
/-- one more signature, if it is new -/
def putJ (js : List (O × List Int)) (o : O) (h : Int) : List (O × List Int) := if h ∈ housesJ js o then js else signJ js o h
def sp_jsign (t : Ad) : Sp := fun vs H Q _ => ∃ j dj pu ow en C B ks dB S kvs js h a o, vs = [.ref j, .int h, .ref a] ∧ JointAt t H j dj pu ow en C B ks dB S kvs (isO js) ∧ kvs.length < 64 ∧ (housesJ js o).length ≤ 1000 ∧ H a = some (.tup (ordV o)) ∧ isOrd 8 o = true ∧ (∀ p ∈ js, isOrd 8 p.1 = true) ∧
  o.p = pu ∧ 0 ≤ h ∧ h < ow ∧ (h ∈ ks ∨ (signedO js h).any (clashB o) = false) ∧
  ∀ kvs' H', JointAt t H' j dj pu ow en C B ks dB S kvs' (isO (putJ js o h)) → (∀ c u, H c = some u → c ≠ S → NotIn kvs c → H' c = some u) → (∀ c u, H c = some u → NotIn kvs c → NotIn kvs' c) → Q (.bl (decide (en ≤ ((housesJ (putJ js o h) o).length : Int)))) H'
theorem JointAt.same {t : Ad} {H H' : Hp} {j dj : Addr} {pu ow en : Int} {C B : Addr} {ks : List Int} {dB S : Addr} {kvs : List (List Key × V)} {is : IThings} (s : Same H H') (J : JointAt t H j dj pu ow en C B ks dB S kvs is) : JointAt t H' j dj pu ow en C B ks dB S kvs is :=
  ⟨s _ _ J.ob, s _ _ J.ch, J.bd.same s, J.ni⟩
theorem ok_Joint_sign (T : Txt K mg t) : FnOk P w K mg base CX0 7 t.f_Joint_sign t.d_Joint_sign ["self", "owner", "order"] (sp_jsign t) := by
  refine T.F_Joint_sign.ok sc_Joint_sign (fun vs H Q E h => ?_) (fun cdv A outer s H vs Q E hr h => ?_)
  · obtain ⟨j, dj, pu, ow, en, C, B, ks, dB, S, kvs, js, h, a, o, rfl, _⟩ := h
    rfl
  · obtain ⟨j, dj, pu, ow, en, C, B, ks, dB, S, kvs, js, h, a, o, rfl, J, l64, lh, ha, ho, hall, op, h0, h1, hcl, k⟩ := h
    refine ⟨_, (@pss_cons _ _ _ _ _ (ps_expr (pe_call (ok_check_order T) (hr.mono (by decide)) rfl T.m_check_order T.F_check_order.kp T.b_check_order .nil pass0 (pa_more (pv 2) pa_nil)))
      (@pss_cons _ _ _ _ _ (ps_if (pt_cmpR op_ne (pe_ix ix_tup (pv 2) pe_int (fun _ _ => rfl)) (pe_fld (pv 0) rfl) (nomark _)) (@pss_one _ _ _ (ps_never)) pss_nil)
      (@pss_cons _ _ _ _ _ (ps_if (pt_not (pt_val (pe_call (ok_is_between T) (hr.mono (by decide)) rfl T.m_is_between T.F_is_between.kp T.b_is_between .nil pass0 (@pa_3 _ _ _ _ _ _ _ (pv 1) pe_int (pe_op op_sub (pe_fld (pv 0) rfl) pe_int) rfl rfl rfl)))) (@pss_one _ _ _ (ps_never)) pss_nil)
      (@pss_cons _ _ _ _ _ (ps_if (PW.pt (pw_and (pt_cmpR op_notIn_seq (pv 1) (pe_fld (pv 0) rfl) (by with_unfolding_all rfl)) (pw_and1 (pt_val (pe_meth (pv 0) T.cl_Joint T.mt_Joint_has_other (ok_Joint_has_other T) (hr.mono (by decide)) T.b_Joint_has_other .nil pass0 (@pa_2 _ _ _ _ _ (pv 1) (pv 2) rfl rfl)))))) (@pss_one _ _ _ (ps_never)) pss_nil)
      (@pss_cons _ _ _ _ _ (ps_expr (pe_meth (pe_fld (pv 0) rfl) T.cl_Board T.mt_Board_put (ok_Board_put T) (hr.mono (by decide)) T.b_Board_put .nil pass0 (@pa_2 _ _ _ _ _ (pv 1) (pv 2) rfl rfl)))
      (@pss_one _ _ _ (ps_ret (pe_meth (pe_fld (pv 0) rfl) T.cl_Board T.mt_Board_is_carried (ok_Board_is_carried T) (hr.mono (by decide)) T.b_Board_is_carried .nil pass0 (pa_more (pv 2) pa_nil))))))))), ?_⟩
    refine ⟨_, rfl, a, o, rfl, ha, ho, ?_⟩
    refine ⟨_, rfl, a, ordV o, 0, .int o.p, rfl, rfl, SqT.of ha, rfl, _, rfl, j, _, dj, _, _, rfl, J.ob, T.cl_Joint, T.na_Joint_purse, jf_purse _ _ _ _, rfl, _, rfl, ?_⟩
    refine ite2 (fun z => absurd z (by simp [op])) (fun _ => ?_)
    refine ⟨_, rfl, _, rfl, j, _, dj, _, _, rfl, J.ob, T.cl_Joint, T.na_Joint_owners, jf_owners _ _ _ _, _, _, rfl, rfl, _, _, _, rfl, ?_⟩
    rw [decide_eq_true (⟨h0, by omega⟩ : 0 ≤ h ∧ h ≤ ow - 1)]
    refine ⟨_, rfl, iteF ?_⟩
    refine ⟨_, rfl, _, rfl, j, _, dj, _, _, rfl, J.ob, T.cl_Joint, T.na_Joint_cheating, jf_cheating _ _ _ _, C, _, rfl, .inl (SqL.of J.ch), rfl, flat_ints _, _, rfl, ?_⟩
    rw [if_pos rfl, inV_ints]
    refine ite2 (fun z => ?A) (fun z => ?B)
    case' A =>
      have hn : h ∉ ks := by simpa using z
      refine ⟨_, rfl, j, dj, _, rfl, J.ob, jf_no _ _ _ _ (by decide +kernel) (by decide +kernel) (by decide +kernel) (by decide +kernel), _, rfl, _, rfl, j, dj, pu, ow, en, C, B, ks, dB, S, kvs, js, h, a, o, rfl, J, l64, ha, ho, hall, fun H1 s1 => ?_⟩
      rw [hcl.resolve_left hn]
      refine ⟨_, rfl, iteF ?_⟩
    case' B =>
      have s1 : Same H H := Same.refl _
      refine iteF ?_
    all_goals
      have J1 := J.same s1
      have hk1 := s1 _ _ ha
      rw [ordV_key] at hk1
      refine ⟨_, rfl, j, _, dj, _, _, rfl, J1.ob, T.cl_Joint, T.na_Joint_board, jf_board _ _ _ _, B, dB, _, rfl, J1.bd.ob, brd_no _ _ (by decide +kernel) (by decide +kernel), _, rfl, _, rfl, B, dB, S, en, kvs, thP (isO js), a, keyI (ordI o), h, rfl, J1.bd, hk1, by omega, (by rw [houses_J]; exact lh), fun hin H2 s2 => ?_, fun hni kvs' H2 B2 kp ni => ?_⟩
      · rw [houses_J] at hin
        have ep : putJ js o h = js := if_pos hin
        rw [ep] at k
        have J2 := J1.same s2
        refine ⟨_, rfl, j, _, dj, _, _, rfl, J2.ob, T.cl_Joint, T.na_Joint_board, jf_board _ _ _ _, B, dB, _, rfl, J2.bd.ob, brd_no _ _ (by decide +kernel) (by decide +kernel), _, rfl, B, dB, S, en, kvs, thP (isO js), a, keyI (ordI o), rfl, J2.bd.rd, s2 _ _ hk1, fun H3 s3 => ?_⟩
        rw [houses_J]
        exact k kvs H3 (J2.same s3) (fun c u hc _ _ => s3 _ _ (s2 _ _ (s1 _ _ hc))) fun _ _ _ z => z
      · rw [houses_J] at hni
        have ep : putJ js o h = signJ js o h := if_neg hni
        rw [ep] at k
        rw [sign_J] at B2
        have jS : j ≠ S := ne_of J1.ob J1.bd.sg (by intro z; cases z)
        have CS : C ≠ S := ne_of J1.ch J1.bd.sg (by intro z; cases z)
        have aS : a ≠ S := ne_of hk1 J1.bd.sg (by intro z; cases z)
        have notL : ∀ {c : Addr} {u : HO}, H c = some u → (∀ xs, u ≠ .lst xs) → NotIn kvs c := fun {c u} hc hu kv hm e => by
          obtain ⟨i, hi, ei⟩ := List.mem_iff_getElem.mp hm
          obtain ⟨pp, _, _, b, e2, e3⟩ := paired_get J.bd.hs (show kvs[i]? = some kv by rw [← ei]; simp [hi])
          rw [e] at e2
          cases e2
          rw [e3] at hc
          exact hu _ (Option.some.inj hc).symm
        have ni1 := ni
        have J2 : JointAt t H2 j dj pu ow en C B ks dB S kvs' (isO (signJ js o h)) := ⟨kp _ _ J1.ob jS (notL J.ob (fun _ z => by cases z)), kp _ _ J1.ch CS J.ni, B2, ni _ _ J1.ch J.ni⟩
        refine ⟨_, rfl, j, _, dj, _, _, rfl, J2.ob, T.cl_Joint, T.na_Joint_board, jf_board _ _ _ _, B, dB, _, rfl, J2.bd.ob, brd_no _ _ (by decide +kernel) (by decide +kernel), _, rfl, B, dB, S, en, kvs', thP (isO (signJ js o h)), a, keyI (ordI o), rfl, J2.bd.rd, kp _ _ hk1 aS (notL ha (fun _ z => by cases z)), fun H3 s3 => ?_⟩
        rw [houses_J]
        exact k kvs' H3 (J2.same s3) (fun c u hc cS cN => s3 _ _ (kp _ _ (s1 _ _ hc) cS cN)) fun c u hc cN => ni _ _ (s1 _ _ hc) cN
/-! ### places of unlike orders -/
def keyP (o : O) : List Key := [Sum.inl o.p, Sum.inl o.n]
def NoClash (os : List O) : Prop := ∀ o ∈ os, ∀ u ∈ os, o.p = u.p → o.n = u.n → o = u
structure FirstAt (H : Hp) (kvs : List (List Key × V)) (os : List O) : Prop where
  is : ∀ k v, valV kvs k = some v → ∃ u ∈ os, k = keyP u ∧ OrdAt H v u
  has : ∀ u ∈ os, ∃ v, valV kvs (keyP u) = some v
theorem valV_snoc {kvs : List (List Key × V)} {k k' : List Key} {v : V} (h : valV kvs k = none) : valV (kvs ++ [(k, v)]) k' = if k = k' then some v else valV kvs k' := by
  induction kvs with
  | nil =>
    by_cases e : k = k'
    · rw [if_pos e]; exact valV_pos (p := (k, v)) e
    · rw [if_neg e]; exact valV_neg (p := (k, v)) e
  | cons p r ih =>
    have hp : ¬ p.1 = k := fun e => by rw [valV_pos e] at h; cases h
    rw [valV_neg hp] at h
    by_cases e : p.1 = k'
    · rw [List.cons_append, valV_pos e, valV_pos e, if_neg (fun z => hp (e.trans z.symm))]
    · rw [List.cons_append, valV_neg e, valV_neg e]
      exact ih h
def ordDt (o : O) : Dt := .tup ((ordI o).map Dt.int)
theorem hasD_ord {H : Hp} {K : PySem.W.Frag} {x : V} {o : O} (h : OrdAt H x o) : HasD K H (ordDt o) x := by
  obtain ⟨c, rfl, hc⟩ := h
  exact hasD_tupI (SqT.of hc)
theorem dep_ord (o : O) : depD (ordDt o) ≤ 60 := dep_tupI _
theorem eqD_ord (a b : O) : eqD (ordDt a) (ordDt b) = decide (a = b) := by
  unfold ordDt
  rw [eqD_tupI]
  have : (ordI a = ordI b) ↔ a = b := ⟨ordI_inj, fun z => by rw [z]⟩
  simp [this]
theorem key_P {o u : O} : keyP o = keyP u ↔ o.p = u.p ∧ o.n = u.n := by simp [keyP]
theorem ord_one {H : Hp} {x : V} {o u : O} (h1 : OrdAt H x o) (h2 : OrdAt H x u) : o = u := by
  obtain ⟨a, rfl, h1⟩ := h1
  obtain ⟨b, e, h2⟩ := h2
  cases e
  have h := HO.tup.inj (Option.some.inj (h1.symm.trans h2))
  simp only [ordV, List.cons.injEq, V.int.injEq, and_true] at h
  obtain ⟨_, _, _, _⟩ := o
  obtain ⟨_, _, _, _⟩ := u
  simpa using h
theorem FirstAt.more {H H' : Hp} {kvs : List (List Key × V)} {os os' : List O} (f : FirstAt H kvs os) (s : ∀ v u, OrdAt H v u → OrdAt H' v u) (sub : ∀ u ∈ os, u ∈ os') (has : ∀ u ∈ os', ∃ v, valV kvs (keyP u) = some v) : FirstAt H' kvs os' :=
  ⟨fun k v e => by
    obtain ⟨u, hu, e1, e2⟩ := f.is k v e
    exact ⟨u, sub u hu, e1, s _ _ e2⟩, has⟩
def sp_cplaces : Sp := fun vs H Q _ => ∃ a xs os, vs = [.ref a] ∧ H a = some (.lst xs) ∧ OrdsAt H xs os ∧ os.length ≤ 100 ∧ (∀ o ∈ os, isOrd 8 o = true) ∧ ∀ r fs H', H r = none → Same H H' → H' r = some (.lst fs) → (fs = [] ↔ NoClash os) → Q (.ref r) H'
theorem ok_clashing_places (T : Txt K mg t) : FnOk P w K mg base CX0 5 t.f_clashing_places t.d_clashing_places ["orders"] sp_cplaces := by
  refine T.F_clashing_places.ok sc_clashing_places (fun vs H Q E h => ?_) (fun cdv A outer s H vs Q E hr h => ?_)
  · obtain ⟨a, xs, os, rfl, _⟩ := h
    rfl
  · obtain ⟨a, xs, os, rfl, ha, ho, l100, hall, k⟩ := h
    have lx : xs.length = os.length := Paired.length ho
    refine ⟨_, (@pss_cons _ _ _ _ _ (ps_set (i := 1) sc_clashing_places.nd rfl (Or.inl rfl) pe_dnewT)
      (@pss_cons _ _ _ _ _ (@ps_set _ _ 2 _ _ _ _ sc_clashing_places.nd rfl (Or.inl rfl) (@pe_lst _ _ _ _ pa_nil) (by rfl) (by first | exact .inl rfl | exact .inr rfl))
      (@pss_cons _ _ _ _ _ (ps_for PassesOwn.never rfl (@pi_list _ _ _ _ (pv 0)) (pg_name (i := 3) sc_clashing_places.nd rfl (Or.inl rfl)) (@pss_one _ _ _ (ps_if (pt_cmpR (op_neD hr.units) (pe_dsetdef (hu_of hr) (pv 1) (pe_call (ok_place_of T) (hr.mono (by decide)) rfl T.m_place_of T.F_place_of.kp T.b_place_of .nil pass0 (pa_more (pv 3) pa_nil)) (pv 3) ⟨rfl, rfl, rfl, rfl⟩) (pv 3) (nomark _)) (@pss_one _ _ _ (ps_expr (pe_bm PySem.F.plainAttrs_list PySem.F.slot_list_append PySem.F.type_list_append mt_append (pv 2) (pa_more (pe_call (ok_place_of T) (hr.mono (by decide)) rfl T.m_place_of T.F_place_of.kp T.b_place_of .nil pass0 (pa_more (pv 3) pa_nil)) pa_nil)))) pss_nil)))
      (@pss_one _ _ _ (ps_ret (pv 2)))))), ?_⟩
    refine fun D hD => ⟨(by show 0 ≤ sizeLine; decide), fun F hF => ?_⟩
    obtain ⟨FD, hF0⟩ := upd_none' hF
    have hF0' : H F = none := hF0
    have s1 : Same H (upd (upd H D (.dT [])) F (.lst [])) := (same_upd hD).trans (same_upd hF)
    have gD : upd (upd H D (.dT [])) F (.lst []) D = some (.dT []) := by rw [upd_ne (Ne.symm FD), upd_same]
    refine ⟨_, rfl, a, rfl, ⟨_, SqL.of (s1 _ _ ha)⟩, for_list (K := K) (a := a) (xs := xs) (fun i σ H' => ∃ v kvs fs, σ = [some (.ref a), some (.ref D), some (.ref F), v] ∧ Same H H' ∧ H' D = some (.dT kvs) ∧ kvs.length ≤ i ∧ H' F = some (.lst fs) ∧ fs.length ≤ i ∧ FirstAt H' kvs (os.take i) ∧
        (fs = [] → ∀ u ∈ os.take i, ∀ v x, valV kvs (keyP u) = some v → OrdAt H' v x → x = u) ∧ (fs ≠ [] → ¬ NoClash os))
      ⟨none, [], [], rfl, s1, gD, Nat.le_refl _, upd_same, Nat.le_refl _, ⟨fun k v e => (by cases e), fun u hu => (by simp at hu)⟩, fun _ u hu => (by simp at hu), fun z => absurd rfl z⟩ (fun i σ H' _ ⟨_, _, _, _, s', _⟩ => SqL.of (s' _ _ ha)) ?_ ?_⟩
    · rintro i x σ H' hx ⟨v, kvs, fs, rfl, s', hD', lk, hF', lf, fa, e1, e2⟩
      obtain ⟨o, eo, hxo⟩ := ords_get ho hx
      obtain ⟨c, rfl, hc⟩ := OrdAt.same s' hxo
      have om := List.mem_of_getElem? eo
      have hi : i < os.length := (List.getElem?_eq_some_iff.mp eo).1
      have ho8 := hall o om
      refine ⟨_, rfl, D, rfl, .inr ⟨kvs, .inl hD'⟩, _, rfl, c, o, rfl, hc, ho8, fun q hq => ?_⟩
      have s2 := same_upd (o := .tup [.int o.p, .int o.n]) hq
      refine ⟨_, rfl, kvs, keyP o, q, s2 _ _ hD', rfl, upd_same, small1000 (by omega), fun w hw => ?_, fun hw => ?_⟩
      · obtain ⟨u, hu, ku, hwu⟩ := fa.is _ _ hw
        obtain ⟨p1, p2⟩ := key_P.mp ku
        have memT : ∀ y, y ∈ os.take (i + 1) ↔ y ∈ os.take i ∨ y = o := fun y => by rw [take_snoc eo, List.mem_append, List.mem_singleton]
        have has' : ∀ y ∈ os.take (i + 1), ∃ v, valV kvs (keyP y) = some v := fun y hy => by
          rcases (memT y).mp hy with z | z
          · exact fa.has y z
          · rw [z]; exact ⟨w, hw⟩
        refine ⟨_, rfl, ordDt u, ordDt o, hasD_ord (OrdAt.same s2 hwu), hasD_ord ⟨c, rfl, s2 _ _ hc⟩, dep_ord _, _, rfl, ?_⟩
        rw [eqD_ord]
        by_cases euo : u = o
        · rw [decide_eq_true euo]
          refine iteF ⟨_, kvs, fs, rfl, s'.trans s2, s2 _ _ hD', by omega, s2 _ _ hF', by omega, fa.more (fun v u h => OrdAt.same s2 h) (fun y hy => (memT y).mpr (.inl hy)) has', fun z y hy v x hv hx => ?_, e2⟩
          rcases (memT y).mp hy with z1 | z1
          · obtain ⟨x', _, _, hx'⟩ := fa.is _ _ hv
            have := e1 z y z1 v x' hv hx'
            rw [← this]
            exact ord_one hx (OrdAt.same s2 hx')
          · subst z1
            rw [hw] at hv
            cases hv
            rw [← euo]
            exact ord_one hx (OrdAt.same s2 hwu)
        · rw [decide_eq_false euo]
          refine iteT ?_
          refine ⟨_, rfl, .inl ⟨rfl, _, SqL.of (s2 _ _ hF')⟩, _, rfl, c, o, rfl, s2 _ _ hc, ho8, fun q2 hq2 => ?_⟩
          have s3 := s2.trans (same_upd (o := .tup [.int o.p, .int o.n]) hq2)
          have hF3 := s3 _ _ hF'
          have hD3 := s3 _ _ hD'
          refine ⟨F, fs, _, rfl, rfl, hF3, small1000 (by omega), ?_⟩
          have tup3 : ∀ v u, OrdAt H' v u → OrdAt (upd (upd (upd H' q (.tup [.int o.p, .int o.n])) q2 (.tup [.int o.p, .int o.n])) F (.lst (fs ++ [.ref q2]))) v u := fun v u ⟨b, e, hb⟩ => ⟨b, e, by
            have hb3 := s3 _ _ hb
            rw [upd_ne (ne_of hb3 hF3 (by intro z; cases z))]
            exact hb3⟩
          refine ⟨_, kvs, fs ++ [.ref q2], rfl, fun b u' e => ?_, ?_, by omega, upd_same, ?_, fa.more tup3 (fun y hy => (memT y).mpr (.inl hy)) has', fun z => by simp at z, fun _ nc => ?_⟩
          · rw [upd_ne (ne_of_none e hF0')]
            exact s3 _ _ (s' _ _ e)
          · rw [upd_ne (ne_of hD3 hF3 (by intro z; cases z))]
            exact hD3
          · rw [List.length_append]
            show fs.length + 1 ≤ i + 1
            omega
          · exact euo (nc u (List.mem_of_mem_take hu) o om p1.symm p2.symm)
      · have memT : ∀ y, y ∈ os.take (i + 1) ↔ y ∈ os.take i ∨ y = o := fun y => by rw [take_snoc eo, List.mem_append, List.mem_singleton]
        rw [putK_new _ hw]
        have hD2 := s2 _ _ hD'
        have hF2 := s2 _ _ hF'
        have tup3 : ∀ v u, OrdAt H' v u → OrdAt (upd (upd H' q (.tup [.int o.p, .int o.n])) D (.dT (kvs ++ [(keyP o, .ref c)]))) v u := fun v u ⟨b, e, hb⟩ => ⟨b, e, by
          have hb3 := s2 _ _ hb
          rw [upd_ne (ne_of hb3 hD2 (by intro z; cases z))]
          exact hb3⟩
        have hco := tup3 (.ref c) o ⟨c, rfl, hc⟩
        refine ⟨_, rfl, ordDt o, ordDt o, hasD_ord hco, hasD_ord hco, dep_ord _, _, rfl, ?_⟩
        rw [eqD_ord, decide_eq_true rfl]
        refine iteF ⟨_, kvs ++ [(keyP o, .ref c)], fs, rfl, fun b u' e => ?_, upd_same, ?_, ?_, by omega, ⟨fun k' v' e => ?_, fun y hy => ?_⟩, fun z y hy v' x hv hx => ?_, e2⟩
        · rw [upd_ne (ne_of_none e hD)]
          exact s2 _ _ (s' _ _ e)
        · rw [List.length_append]
          show kvs.length + 1 ≤ i + 1
          omega
        · rw [upd_ne (ne_of hF2 hD2 (by intro z; cases z))]
          exact hF2
        · rw [valV_snoc hw] at e
          by_cases z : keyP o = k'
          · rw [if_pos z] at e
            cases e
            exact ⟨o, (memT o).mpr (.inr rfl), z.symm, hco⟩
          · rw [if_neg z] at e
            obtain ⟨u, hu, q1, q2⟩ := fa.is _ _ e
            exact ⟨u, (memT u).mpr (.inl hu), q1, tup3 _ _ q2⟩
        · rw [valV_snoc hw]
          by_cases z : keyP o = keyP y
          · exact ⟨_, if_pos z⟩
          · rw [if_neg z]
            rcases (memT y).mp hy with z1 | z1
            · exact fa.has y z1
            · exact absurd (by rw [z1]) z
        · rw [valV_snoc hw] at hv
          by_cases z2 : keyP o = keyP y
          · rw [if_pos z2] at hv
            cases hv
            rcases (memT y).mp hy with z1 | z1
            · obtain ⟨v2, hv2⟩ := fa.has y z1
              rw [← z2, hw] at hv2
              cases hv2
            · rw [z1]
              exact ord_one hx hco
          · rw [if_neg z2] at hv
            rcases (memT y).mp hy with z1 | z1
            · obtain ⟨x', _, _, hx'⟩ := fa.is _ _ hv
              have := e1 z y z1 v' x' hv hx'
              rw [← this]
              exact ord_one hx (tup3 _ _ hx')
            · exact absurd (by rw [z1]) z2
    · rintro σ H' ⟨v, kvs, fs, rfl, s', hD', lk, hF', lf, fa, e1, e2⟩
      rw [lx, List.take_length] at fa e1
      refine ⟨_, rfl, k F fs H' hF0 s' hF' ⟨fun z => ?_, fun z => ?_⟩⟩
      · intro o ho' u hu p1 p2
        obtain ⟨w, hw⟩ := fa.has o ho'
        obtain ⟨x, hx, _, hwx⟩ := fa.is _ _ hw
        have h1 := e1 z o ho' w x hw hwx
        have h2 := e1 z u hu w x (by rw [← key_P.mpr ⟨p1, p2⟩]; exact hw) hwx
        rw [← h1, h2]
      · exact Classical.byContradiction fun y => e2 y z
def sp_jfaces (t : Ad) : Sp := fun vs H Q _ => ∃ j dj pu ow en C B ks dB S kvs js, vs = [.ref j] ∧ JointAt t H j dj pu ow en C B ks dB S kvs (isO js) ∧ kvs.length < 64 ∧ 0 ≤ ow ∧ ow ≤ 6 ∧ (∀ p ∈ js, isOrd 8 p.1 = true) ∧
  ∀ (r : Addr) (hs : List Int) (H' : Hp), H r = none → Same H H' → H' r = some (.lst (hs.map V.int)) → hs.Pairwise (· < ·) → (∀ h, h ∈ hs ↔ 0 ≤ h ∧ h < ow ∧ ¬ NoClash (signedO js h)) → Q (.ref r) H'
theorem ok_Joint_two_faced (T : Txt K mg t) : FnOk P w K mg base CX0 6 t.f_Joint_two_faced t.d_Joint_two_faced ["self"] (sp_jfaces t) := by
  refine T.F_Joint_two_faced.ok sc_Joint_two_faced (fun vs H Q E h => ?_) (fun cdv A outer s H vs Q E hr h => ?_)
  · obtain ⟨j, dj, pu, ow, en, C, B, ks, dB, S, kvs, js, rfl, _⟩ := h
    rfl
  · obtain ⟨j, dj, pu, ow, en, C, B, ks, dB, S, kvs, js, rfl, J, l64, o0, o6, hall, k⟩ := h
    refine ⟨_, (@pss_one _ _ _ (ps_ret (pe_lcomp (N' := ["owner", "self"]) (ix := [none, some 0]) (compOk_is (by kernel_rfl)) rfl (pi_range1 rfl T.n_range (pa_more (pe_fld (pv 0) rfl) pa_nil)) (fun _ _ _ _ => (pg_name (i := 0) nd_3 rfl (Or.inl rfl) (.inr rfl))) (fun _ _ _ _ => (pif_one (pt_truthK (K := K) rfl (pe_call (ok_clashing_places T) (hr.mono (by decide)) rfl T.m_clashing_places T.F_clashing_places.kp T.b_clashing_places .nil pass0 (pa_more (pe_meth (pe_fldK (K := K) rfl (pv 1) rfl) T.cl_Board T.mt_Board_things_of (ok_Board_things_of T) (hr.mono (by decide)) T.b_Board_things_of .nil pass0 (pa_more (pv 0) pa_nil)) pa_nil)) (fun _ => rfl)))) (fun _ _ _ _ => (pv 0))))), ?_⟩
    have ljs : kvs.length = js.length := by
      have := Paired.length J.bd.hs
      rwa [thP, List.length_map, isO, List.length_map] at this
    refine ⟨_, rfl, j, _, dj, _, _, rfl, J.ob, T.cl_Joint, T.na_Joint_owners, jf_owners _ _ _ _, ow, rfl, by omega, by omega, lc_range (lo := 0) (n := ow.toNat) (fun i ys σ' H' => ∃ (v : Option V) (hs : List Int), σ' = [v, some (.ref j)] ∧ Same H H' ∧ ys = hs.map V.int ∧ hs.Pairwise (· < ·) ∧ hs.length ≤ i ∧ ∀ h, h ∈ hs ↔ 0 ≤ h ∧ h < (i : Int) ∧ ¬ NoClash (signedO js h)) ⟨none, [], rfl, Same.refl _, rfl, .nil, Nat.le_refl _, fun h => by simp; omega⟩ ?_ ?_ ?_⟩
    · rintro i ys σ' H' hi ⟨v, hs, rfl, s', rfl, up, l, mm⟩
      refine len1000 ?_
      rw [List.length_map]
      omega
    · rintro i ys σ' H' hi ⟨v, hs, rfl, s', rfl, up, l, mm⟩
      have J1 := J.same s'
      refine ⟨_, rfl, j, _, dj, _, _, rfl, J1.ob, T.cl_Joint, T.na_Joint_board, jf_board _ _ _ _, B, dB, _, rfl, J1.bd.ob, brd_no _ _ (by decide +kernel) (by decide +kernel), _, rfl, B, dB, S, en, kvs, isO js, 0 + (i : Int), rfl, J1.bd, l64, fun r vs' H1 nr s1 tu gr => ?_⟩
      rw [signed_isO] at tu
      have hos := tupsH_ords tu
      have lsg : (signedO js (0 + (i : Int))).length ≤ js.length := by
        unfold signedO
        rw [List.length_map]
        exact List.length_filter_le ..
      refine ⟨r, vs', _, rfl, gr, hos, by omega, fun o hm => ?_, fun r2 fs H2 nr2 s2 g2 hiff => ?_⟩
      · unfold signedO at hm
        obtain ⟨p, hp, rfl⟩ := List.mem_map.mp hm
        exact hall p (List.mem_filter.mp hp).1
      refine ⟨!fs.isEmpty, .inl ⟨_, SqL.of g2, rfl⟩, ?_⟩
      have s3 := (s'.trans s1).trans s2
      have e0 : (0 : Int) + (i : Int) = i := by omega
      rw [e0] at hiff ⊢
      cases fs with
      | nil =>
        have nc := hiff.mp rfl
        refine iteF ⟨_, hs, rfl, s3, rfl, up, by omega, fun h => ?_⟩
        rw [mm h]
        constructor
        · rintro ⟨a, b, c⟩
          exact ⟨a, by omega, c⟩
        · rintro ⟨a, b, c⟩
          refine ⟨a, ?_, c⟩
          have : h ≠ (i : Int) := fun z => c (z ▸ nc)
          omega
      | cons f fr =>
        have nc : ¬ NoClash (signedO js (i : Int)) := fun z => by
          have := hiff.mpr z
          cases this
        refine iteT ⟨_, rfl, _, hs ++ [(i : Int)], rfl, s3, by rw [List.map_append]; rfl, ?_, ?_, fun h => ?_⟩
        · rw [List.pairwise_append]
          refine ⟨up, List.pairwise_singleton _ _, fun x hx y hy => ?_⟩
          have : y = (i : Int) := by simpa using hy
          have := (mm x).mp hx
          omega
        · rw [List.length_append]
          show hs.length + 1 ≤ i + 1
          omega
        · rw [List.mem_append, mm h, List.mem_singleton]
          constructor
          · rintro (⟨a, b, c⟩ | z)
            · exact ⟨a, by omega, c⟩
            · subst z
              exact ⟨by omega, by omega, nc⟩
          · rintro ⟨a, b, c⟩
            by_cases z : h = (i : Int)
            · exact .inr z
            · exact .inl ⟨a, by omega, c⟩
    · rintro ys σ' H' ⟨v, hs, rfl, s', rfl, up, l, mm⟩ p hp
      refine k p hs _ (s'.free hp) (s'.trans (same_upd hp)) upd_same up fun h => ?_
      rw [mm h]
      constructor
      · rintro ⟨a, b, c⟩
        exact ⟨a, by omega, c⟩
      · rintro ⟨a, b, c⟩
        exact ⟨a, by omega, c⟩
def sp_jinit (K : PySem.W.Frag) (t : Ad) : Sp := fun vs H Q _ => ∃ x dx pu ow nd c ks, vs = [.ref x, .int pu, .int ow, .int nd, .ref c] ∧ H x = some (.ins t.a_Joint dx []) ∧ 0 ≤ pu ∧ pu ≤ 7 ∧ 1 ≤ ow ∧ ow ≤ 6 ∧ 1 ≤ nd ∧ nd ≤ ow ∧ CheatsAt K H c ks ∧ ks.Pairwise (· < ·) ∧ (∀ k ∈ ks, 0 ≤ k ∧ k < ow) ∧
  ∀ C B dB S H', H C = none → H B = none → H S = none → JointAt t H' x dx pu ow nd C B ks dB S [] [] → (∀ b o, H b = some o → b ≠ x → H' b = some o) → Q .non H'
theorem ok_Joint___init__ (T : Txt K mg t) : FnOk P w K mg base CX0 6 t.f_Joint___init__ t.d_Joint___init__ ["self", "purse", "owners", "need", "cheats"] (sp_jinit K t) := by
  refine T.F_Joint___init__.ok sc_Joint___init__ (fun vs H Q E h => ?_) (fun cdv A outer s H vs Q E hr h => ?_)
  · obtain ⟨x, dx, pu, ow, nd, c, ks, rfl, _⟩ := h
    rfl
  · obtain ⟨x, dx, pu, ow, nd, c, ks, rfl, hx, p0, p7, o1, o6, n1, n2, hc, up, rg, k⟩ := h
    refine ⟨_, (@pss_cons _ _ _ _ _ (ps_if (pt_not (pt_val (pe_call (ok_is_between T) (hr.mono (by decide)) rfl T.m_is_between T.F_is_between.kp T.b_is_between .nil pass0 (@pa_3 _ _ _ _ _ _ _ (pv 1) pe_int (pe_op op_sub (pe_glob (v := .int 8) rfl T.c_MOST_PURSES.choose_spec ⟨_, rfl⟩) pe_int) rfl rfl rfl)))) (@pss_one _ _ _ (ps_never)) pss_nil)
      (@pss_cons _ _ _ _ _ (ps_expr (pe_callK (ok_check_owners T) (hr.mono (by decide)) rfl T.m_check_owners T.F_check_owners.kp T.bk0_check_owners pass0 (pa_more (pv 2) pa_nil) (pk_cons (pv 3) (pk_cons (pv 4) pk_nil))))
      (@pss_cons _ _ _ _ _ (ps_fld (pv 0) (pv 1) rfl)
      (@pss_cons _ _ _ _ _ (ps_fld (pv 0) (pv 2) rfl)
      (@pss_cons _ _ _ _ _ (ps_fld (pv 0) (pe_callTy call_list_of rfl T.n_list boot_list (pa_more (pv 4) pa_nil)) rfl)
      (@pss_one _ _ _ (ps_fld (pv 0) (pe_make T.mk_Board (ok_Board___init__ T) (hr.mono (by decide)) rfl T.m_Board T.b_Board___init__ .nil pass0 (pa_more (pv 3) pa_nil)) rfl))))))), ?_⟩
    refine ⟨_, rfl, _, _, rfl, rfl, _, _, _, rfl, ?_⟩
    rw [decide_eq_true (⟨p0, by omega⟩ : 0 ≤ pu ∧ pu ≤ 8 - 1)]
    refine ⟨_, rfl, iteF ?_⟩
    refine ⟨_, rfl, _, rfl, _, rfl, ow, nd, c, ks, rfl, o1, o6, n1, n2, hc, up, rg, fun H1 s1 => ?_⟩
    have hx1 := s1 _ _ hx
    have hc1 : CheatsAt K H1 c ks := by
      rcases hc with h | ⟨e, h⟩
      · exact .inl (s1 _ _ h)
      · refine .inr ⟨e, ?_⟩
        rcases h with h | h
        · exact .inl (rd_same s1 h)
        · exact .inr h
    refine ⟨_, rfl, _, rfl, x, _, dx, _, rfl, hx1, T.cl_Joint, T.na_Joint_purse, (by show 0 < 1000; decide), ?_⟩
    refine ⟨_, rfl, _, rfl, x, _, dx, _, rfl, upd_same, T.cl_Joint, T.na_Joint_owners, (by show 1 < 1000; decide), ?_⟩
    rw [upd_upd]
    have hsq : SqL K (upd H1 x (.ins t.a_Joint dx (putF "owners" (.int ow) (putF "purse" (.int pu) [])))) c (ks.map V.int) ∨ SqT K (upd H1 x (.ins t.a_Joint dx (putF "owners" (.int ow) (putF "purse" (.int pu) [])))) c (ks.map V.int) := by
      rcases hc1 with h | ⟨e, h⟩
      · exact .inl (SqL.of (by rw [upd_ne (ne_of h hx1 (by intro z; cases z))]; exact h))
      · subst e
        refine .inr ?_
        rcases h with (h | ⟨o, h⟩) | h
        · exact .inl (.inl (by rw [upd_ne (ne_of h hx1 (by intro z; cases z))]; exact h))
        · exact .inl (.inr ⟨o, by rw [upd_ne (ne_of h hx1 (by intro z; cases z))]; exact h⟩)
        · exact .inr h
    refine ⟨_, rfl, c, _, rfl, hsq, fun C hC => ?_⟩
    obtain ⟨Cx, hC1⟩ := upd_none' hC
    have hC0 : H C = none := s1.free hC1
    refine ⟨_, rfl, x, _, dx, _, rfl, (by rw [upd_ne (Ne.symm Cx), upd_same]), T.cl_Joint, T.na_Joint_cheating, (by show 2 < 1000; decide), ?_⟩
    have g1 : ∀ b o, H1 b = some o → b ≠ x → upd (upd (upd H1 x (.ins t.a_Joint dx (putF "owners" (.int ow) (putF "purse" (.int pu) [])))) C (.lst (ks.map V.int))) x (.ins t.a_Joint dx (putF "cheating" (.ref C) (putF "owners" (.int ow) (putF "purse" (.int pu) [])))) b = some o := fun b o e bx => by
      rw [upd_ne bx, upd_ne (ne_of_none e hC1), upd_ne bx]
      exact e
    have gx : upd (upd (upd H1 x (.ins t.a_Joint dx (putF "owners" (.int ow) (putF "purse" (.int pu) [])))) C (.lst (ks.map V.int))) x (.ins t.a_Joint dx (putF "cheating" (.ref C) (putF "owners" (.int ow) (putF "purse" (.int pu) [])))) x = some (.ins t.a_Joint dx (putF "cheating" (.ref C) (putF "owners" (.int ow) (putF "purse" (.int pu) [])))) := upd_same
    have gC : upd (upd (upd H1 x (.ins t.a_Joint dx (putF "owners" (.int ow) (putF "purse" (.int pu) [])))) C (.lst (ks.map V.int))) x (.ins t.a_Joint dx (putF "cheating" (.ref C) (putF "owners" (.int ow) (putF "purse" (.int pu) [])))) C = some (.lst (ks.map V.int)) := by rw [upd_ne Cx, upd_same]
    generalize upd (upd (upd H1 x (.ins t.a_Joint dx (putF "owners" (.int ow) (putF "purse" (.int pu) [])))) C (.lst (ks.map V.int))) x (.ins t.a_Joint dx (putF "cheating" (.ref C) (putF "owners" (.int ow) (putF "purse" (.int pu) [])))) = H3 at g1 gx gC
    refine ⟨_, rfl, fun B dB nB ndB neB => ?_⟩
    have s3 : Same H3 (upd (upd H3 dB (.own B)) B (.ins t.a_Board dB [])) := fun b o e => by
      rw [upd_ne (ne_of_none e nB), upd_ne (ne_of_none e ndB)]
      exact e
    refine ⟨B, dB, nd, rfl, upd_same, fun S H4 nS BA keep => ⟨rfl, ?_⟩⟩
    have s4 : Same H3 H4 := fun b o e => keep b o (s3 _ _ e) (ne_of_none e nB)
    have nS3 : H3 S = none := s3.free nS
    have none0 : ∀ b, H3 b = none → H b = none := fun b e => by
      cases z : H b with
      | none => rfl
      | some o =>
        by_cases bx : b = x
        · rw [bx, gx] at e; cases e
        · rw [g1 b o (s1 _ _ z) bx] at e; cases e
    have xS : x ≠ S := ne_of_none gx nS3
    have xB : x ≠ B := ne_of_none gx nB
    refine ⟨_, rfl, x, _, dx, _, rfl, s4 _ _ gx, T.cl_Joint, T.na_Joint_board, (by show 3 < 1000; decide), ?_⟩
    have BX : BoardAt t (upd H4 x (.ins t.a_Joint dx (jf pu ow C B))) B dB S nd [] (thP []) := ⟨by rw [upd_ne (Ne.symm xB)]; exact BA.ob, by rw [upd_ne (Ne.symm xS)]; exact BA.sg, .nil, BA.un⟩
    refine k C B dB S _ hC0 (none0 B nB) (none0 S nS3) ⟨upd_same, ?_, BX, fun kv hm => (by cases hm)⟩ fun b o e bx => ?_
    · rw [upd_ne Cx]
      exact s4 _ _ gC
    · rw [upd_ne bx]
      exact s4 _ _ (g1 b o (s1 _ _ e) bx)
def sp_town (K : PySem.W.Frag) : Sp := fun vs H Q _ => ∃ (a : Addr) (ns : List Int), vs = [.ref a] ∧ SqL K H a (ns.map V.int) ∧ ∀ T R H', H T = none → H R = none → Same H H' → Town T R H' → Q (.ref T) H'
def sp_draw : Sp := fun vs H Q _ => ∃ (T R : Addr) (m : Int), vs = [.ref T, .int m] ∧ Town T R H ∧ 1 ≤ m ∧ m < 1073741824 ∧ ∀ d H', 0 ≤ d → d < m → Town T R H' → KeepT T R H H' → Q (.int d) H'
def sp_pick : Sp := fun vs H Q _ => ∃ (T R S : Addr) (xs : List V), vs = [.ref T, .ref S] ∧ Town T R H ∧ H S = some (.lst xs) ∧ S ≠ T ∧ S ≠ R ∧ 0 < xs.length ∧ xs.length ≤ 1000 ∧
  ∀ (i : Nat) (x : V) (H' : Hp), xs[i]? = some x → Town T R H' → KeepT T R H H' → Q x H'
theorem ok__law_town (T : Txt K mg t) : FnOk P w K mg base CX0 1 t.f__law_town t.d__law_town ["_law_script"] (sp_town K) := by
  refine T.F__law_town.ok sc__law_town (fun vs H Q E h => ?_) (fun cdv A outer s H vs Q E hr h => ?_)
  · obtain ⟨a, ns, rfl, _⟩ := h
    rfl
  · obtain ⟨a, ns, rfl, ha, k⟩ := h
    refine ⟨_, (@pss_one _ _ _ (ps_ret (@pe_lst _ _ _ _ (@pa_2 _ _ _ _ _ (pe_ifExp (pt_cmpR (op_neD hr.units) (pv 0) (@pe_lst _ _ _ _ pa_nil) (nomark _)) (pe_callTy call_list_of rfl T.n_list boot_list (pa_more (pv 0) pa_nil)) (@pe_lst _ _ _ _ (pa_more pe_int pa_nil))) pe_int rfl rfl)))), ?_⟩
    refine ⟨_, rfl, (by show 0 ≤ sizeLine; decide), fun p hp => ?_⟩
    have s1 := same_upd (o := .lst []) hp
    refine ⟨.lst (ns.map Dt.int), .lst (([] : List Int).map Dt.int), hasD_listI (s1.seq ha), hasD_listI (SqL.of upd_same), dep_listI _, _, rfl, ?_⟩
    rw [eqD_listI]
    refine ite2 (fun h1 => ?_) (fun h1 => ?_)
    · have ne := nd h1
      refine ⟨_, rfl, a, _, rfl, .inl (s1.seq ha), fun R hR => ?_⟩
      refine ⟨(by show 2 ≤ sizeLine; decide), fun T' hT => ?_⟩
      have s2 := s1.trans (same_upd (o := .lst (ns.map V.int)) hR)
      have nRT : R ≠ T' := ne_of_none upd_same hT
      refine k T' R _ (s2.free hT) (s1.free hR) (s2.trans (same_upd hT)) ⟨ns, 0, upd_same, by rw [upd_ne nRT, upd_same], ?_⟩
      cases ns with
      | nil => exact absurd rfl ne
      | cons x r => exact Nat.succ_pos _
    · refine ⟨(by show 1 ≤ sizeLine; decide), fun R hR => ?_⟩
      refine ⟨(by show 2 ≤ sizeLine; decide), fun T' hT => ?_⟩
      have s2 := s1.trans (same_upd (o := .lst [.int 0]) hR)
      have nRT : R ≠ T' := ne_of_none upd_same hT
      exact k T' R _ (s2.free hT) (s1.free hR) (s2.trans (same_upd hT)) ⟨[0], 0, upd_same, by rw [upd_ne nRT, upd_same]; rfl, Nat.one_pos⟩
theorem ok__law_draw (T : Txt K mg t) : FnOk P w K mg base CX0 1 t.f__law_draw t.d__law_draw ["_law_town_here", "_law_many"] sp_draw := by
  refine T.F__law_draw.ok sc__law_draw (fun vs H Q E h => ?_) (fun cdv A outer s H vs Q E hr h => ?_)
  · obtain ⟨a, R, m, rfl, _⟩ := h
    rfl
  · obtain ⟨To, R, m, rfl, hT, m1, m2, k⟩ := h
    have nTR := hT.ne
    obtain ⟨row, c, h1, h2, h3⟩ := hT
    refine ⟨_, (@pss_cons _ _ _ _ _ (ps_set (i := 2) sc__law_draw.nd rfl (Or.inl rfl) (pe_ix ix_list (pv 0) pe_int (fun _ _ => rfl)))
      (@pss_cons _ _ _ _ _ (ps_asg (pe_op op_add (pe_ix ix_list (pv 0) pe_int (fun _ _ => rfl)) pe_int) (pg_sub (pv 0) pe_int set_list))
      (@pss_cons _ _ _ _ _ (ps_set (i := 3) sc__law_draw.nd rfl (Or.inl rfl) (pe_op op_mod (pe_ix ix_list (pv 0) pe_int (fun _ _ => rfl)) (pe_callB call_len_seq rfl T.n_len boot_len (pa_more (pv 2) pa_nil))))
      (@pss_cons _ _ _ _ _ (ps_set (i := 4) sc__law_draw.nd rfl (Or.inl rfl) (pe_ix ix_list (pv 2) (pv 3) (fun _ _ => rfl)))
      (@pss_cons _ _ _ _ _ (ps_if (pt_cmpR op_ge (pv 4) pe_int (nomark _)) (@pss_cons _ _ _ _ _ (ps_asg (pe_op op_fdiv (pv 4) (pv 1)) (pg_sub (pv 2) (pv 3) set_list))
      (@pss_one _ _ _ (ps_ret (pe_op op_mod (pv 4) (pv 1))))) pss_nil)
      (@pss_cons _ _ _ _ _ (ps_set (i := 5) sc__law_draw.nd rfl (Or.inl rfl) (pe_op op_mod (pe_op op_add (pv 4) (pe_op op_mul pe_int (pe_ix ix_list (pv 0) pe_int (fun _ _ => rfl)))) pe_int))
      (@pss_cons _ _ _ _ _ (ps_set (i := 5) sc__law_draw.nd rfl (Or.inl rfl) (pe_op op_mod (pe_op op_pow (pv 5) pe_int) pe_int))
      (@pss_one _ _ _ (ps_ret (pe_op op_mod (pe_op op_fdiv (pe_op op_mod (pe_op op_add (pe_op op_mul (pe_op op_fdiv (pv 5) pe_int) pe_int) (pv 5)) pe_int) pe_int) (pv 1))))))))))), ?_⟩
    -- the row; the count is one more
    refine ⟨_, rfl, To, _, 0, .ref R, rfl, rfl, SqL.of h1, rfl, ?_⟩
    refine ⟨_, rfl, To, _, 1, .int c, rfl, rfl, SqL.of h1, rfl, _, _, rfl, rfl, ?_⟩
    refine ⟨_, rfl, To, _, 1, 1, rfl, rfl, h1, rfl, ?_⟩
    have g1 : (upd H To (.lst ([V.ref R, V.int c].set 1 (V.int (c + 1))))) To = some (.lst [.ref R, .int (c + 1)]) := upd_same
    have g2 : (upd H To (.lst ([V.ref R, V.int c].set 1 (V.int (c + 1))))) R = some (.lst (row.map V.int)) := by rw [upd_ne nTR.symm]; exact h2
    have kp : KeepT To R H (upd H To (.lst ([V.ref R, V.int c].set 1 (V.int (c + 1))))) := fun b o e n1 _ => by rw [upd_ne n1]; exact e
    generalize upd H To (.lst ([V.ref R, V.int c].set 1 (V.int (c + 1)))) = H1 at g1 g2 kp
    -- the place, the cell
    have hl : (0 : Int) < ((row.map V.int).length : Int) := by rw [List.length_map]; omega
    refine ⟨_, rfl, To, _, 1, .int (c + 1), rfl, rfl, SqL.of g1, rfl, _, rfl, R, _, rfl, .inl (SqL.of g2), _, _, rfl, rfl, hl, ?_⟩
    rw [List.length_map] at hl ⊢
    have b0 : 0 ≤ (c + 1) % (row.length : Int) := Int.emod_nonneg _ (by omega)
    have b1 : (c + 1) % (row.length : Int) < (row.length : Int) := Int.emod_lt_of_pos _ hl
    have b2 : ((c + 1) % (row.length : Int)).toNat < row.length := by omega
    refine ⟨_, rfl, _, rfl, R, _, ((c + 1) % (row.length : Int)), _, rfl, rfl, SqL.of g2, atI_of b0 (get_map b2), ?_⟩
    refine ⟨_, rfl, _, _, rfl, rfl, _, rfl, ?_⟩
    refine ite2 (fun h5 => ?_) (fun h5 => ?_)
    · refine ⟨_, rfl, _, rfl, _, _, rfl, rfl, ⟨by omega, m2⟩, ?_⟩
      refine ⟨_, rfl, _, rfl, R, _, ((c + 1) % (row.length : Int)), _, rfl, rfl, g2, ixN_of b0 (by rw [List.length_map]; exact b2), ?_⟩
      rw [set_map]
      refine ⟨_, rfl, _, rfl, _, _, rfl, rfl, (by show (0 : Int) < m; omega), ?_⟩
      refine k _ _ (Int.emod_nonneg _ (by omega)) (Int.emod_lt_of_pos _ (by omega)) ⟨_, c + 1, by rw [upd_ne nTR]; exact g1, upd_same, by rw [List.length_set]; exact h3⟩ fun b o e n1 n2 => ?_
      rw [upd_ne n2]
      exact kp b o e n1 n2
    · have big : ∀ z : Int, (z % 4294967291).natAbs < 2 ^ 64 := fun z => by
        have u1 := Int.emod_nonneg z (show (4294967291 : Int) ≠ 0 by decide)
        have u2 := Int.emod_lt_of_pos z (show (0 : Int) < 4294967291 by decide)
        omega
      refine ⟨_, rfl, _, rfl, To, _, 1, .int (c + 1), rfl, rfl, SqL.of g1, rfl, _, _, rfl, rfl, .inl ⟨by decide, by decide⟩, _, _, rfl, rfl, _, _, rfl, rfl, (by show (0 : Int) < 4294967291; decide), ?_⟩
      refine ⟨_, rfl, _, _, rfl, rfl, ⟨by decide, by decide, big _⟩, _, _, rfl, rfl, (by show (0 : Int) < 4294967279; decide), ?_⟩
      refine ⟨_, rfl, _, _, rfl, rfl, ⟨by decide, by decide⟩, _, _, rfl, rfl, .inr ⟨by decide, by decide⟩, _, rfl, _, _, rfl, rfl, _, _, rfl, rfl, (by show (0 : Int) < 4294967231; decide), _, _, rfl, rfl, ⟨by decide, by decide⟩, _, rfl, _, _, rfl, rfl, (by show (0 : Int) < m; omega), ?_⟩
      exact k _ _ (Int.emod_nonneg _ (by omega)) (Int.emod_lt_of_pos _ (by omega)) ⟨row, c + 1, g1, g2, h3⟩ kp
theorem ok__law_pick (T : Txt K mg t) : FnOk P w K mg base CX0 2 t.f__law_pick t.d__law_pick ["_law_town_here", "_law_some_here"] sp_pick := by
  refine T.F__law_pick.ok sc__law_pick (fun vs H Q E h => ?_) (fun cdv A outer s H vs Q E hr h => ?_)
  · obtain ⟨a, R, S, xs, rfl, _⟩ := h
    rfl
  · obtain ⟨To, R, S, xs, rfl, hT, hS, n1, n2, l0, l1, k⟩ := h
    refine ⟨_, (@pss_one _ _ _ (ps_ret (pe_ix ix_list (pv 1) (pe_call (ok__law_draw T) (hr.mono (by decide)) rfl T.m__law_draw T.F__law_draw.kp T.b__law_draw .nil pass0 (@pa_2 _ _ _ _ _ (pv 0) (pe_callB call_len_seq rfl T.n_len boot_len (pa_more (pv 1) pa_nil)) rfl rfl)) (fun _ _ => rfl)))), ?_⟩
    refine ⟨_, rfl, _, rfl, _, rfl, S, xs, rfl, .inl (SqL.of hS), To, R, _, rfl, hT, by omega, by omega, fun d H' d0 d1 hT' kp => ?_⟩
    have hd : d.toNat < xs.length := by omega
    exact ⟨S, xs, d, xs[d.toNat], rfl, rfl, SqL.of (kp _ _ hS n1 n2), atI_of d0 (by simp [hd]), k d.toNat _ H' (by simp [hd]) hT' kp⟩
def sp_is : Sp := fun vs H Q _ => ∃ a b, vs = [.bl a, .bl b] ∧ Q (.bl (decide (a = b))) H
theorem ok__law_is (T : Txt K mg t) : FnOk P w K mg base CX0 1 t.f__law_is t.d__law_is ["_law_told", "_law_due"] sp_is := by
  refine T.F__law_is.ok sc__law_is (fun vs H Q E h => ?_) (fun cdv A outer s H vs Q E hr h => ?_)
  · obtain ⟨a, b, rfl, _⟩ := h
    rfl
  · obtain ⟨a, b, rfl, q⟩ := h
    refine ⟨_, (@pss_one _ _ _ (ps_ret (pe_and (pe_callB call_isinst rfl T.n_isinstance boot_isinstance (@pa_2 _ _ _ _ _ (pv 0) (pe_bltn (v := .ty "bool") rfl T.n_bool boot_bool rfl) rfl rfl)) (pe_one (pe_cmpR op_eq (pv 0) (pv 1) (nomark _)))))), ?_⟩
    refine ⟨_, rfl, _, _, _, true, rfl, .bl _, rfl, _, rfl, iteT ?_⟩
    refine ⟨_, rfl, _, rfl, rfl, ?_⟩
    have e : decide (V.bl a = V.bl b) = decide (a = b) := by cases a <;> cases b <;> rfl
    rw [e]
    exact q
def sp_some : Sp := fun vs H Q _ => ∃ To R n, vs = [.ref To, .int n, .int n] ∧ Town To R H ∧ 0 ≤ n ∧ n ≤ 6 ∧ ∀ r (ks : List Int) H', H r = none → Town To R H' → KeepT To R H H' → H' r = some (.lst (ks.map V.int)) → ks.Pairwise (· < ·) → (∀ k ∈ ks, 0 ≤ k ∧ k < n) → Q (.ref r) H'
theorem ok__law_some (T : Txt K mg t) : FnOk P w K mg base CX0 2 t.f__law_some t.d__law_some ["_law_town_here", "_law_size", "_law_most"] sp_some := by
  refine T.F__law_some.ok sc__law_some (fun vs H Q E h => ?_) (fun cdv A outer s H vs Q E hr h => ?_)
  · obtain ⟨To, R, n, rfl, _⟩ := h
    rfl
  · obtain ⟨To, R, n, rfl, hT, n0, n6, k⟩ := h
    refine ⟨_, (@pss_cons _ _ _ _ _ (@ps_set _ _ 3 _ _ _ _ sc__law_some.nd rfl (Or.inl rfl) (@pe_lst _ _ _ _ pa_nil) (by rfl) (by first | exact .inl rfl | exact .inr rfl))
      (@pss_cons _ _ _ _ _ (ps_for PassesOwn.never rfl (pi_range1 rfl T.n_range (pa_more (pv 1) pa_nil)) (pg_name (i := 4) sc__law_some.nd rfl (Or.inl rfl)) (@pss_one _ _ _ (ps_if (PW.pt (pw_and (pt_cmpR op_lt (pe_callB call_len_seq rfl T.n_len boot_len (pa_more (pv 3) pa_nil)) (pv 2) (nomark _)) (pw_and1 (pt_cmpR op_eq (pe_call (ok__law_draw T) (hr.mono (by decide)) rfl T.m__law_draw T.F__law_draw.kp T.b__law_draw .nil pass0 (@pa_2 _ _ _ _ _ (pv 0) pe_int rfl rfl)) pe_int (nomark _))))) (@pss_one _ _ _ (ps_expr (pe_bm PySem.F.plainAttrs_list PySem.F.slot_list_append PySem.F.type_list_append mt_append (pv 3) (pa_more (pv 4) pa_nil)))) pss_nil)))
      (@pss_one _ _ _ (ps_ret (pv 3))))), ?_⟩
    refine ⟨(by show 0 ≤ sizeLine; decide), fun r hr => ?_⟩
    have fr := hT.fresh hr
    have s1 := same_upd (o := .lst []) hr
    refine ⟨_, rfl, n, rfl, by omega, by omega, for_range (lo := 0) (n := n.toNat) (fun i σ H' => ∃ (v : Option V) (ks : List Int), σ = [some (.ref To), some (.int n), some (.int n), some (.ref r), v] ∧ Town To R H' ∧ KeepT To R H H' ∧ H' r = some (.lst (ks.map V.int)) ∧ ks.length ≤ i ∧ ks.Pairwise (· < ·) ∧ ∀ z ∈ ks, 0 ≤ z ∧ z < (i : Int))
      ⟨none, [], rfl, hT.same s1, fun b o e _ _ => s1 _ _ e, upd_same, Nat.le_refl _, .nil, fun z hz => by cases hz⟩ ?_ ?_⟩
    · rintro i σ H' hi ⟨v, ks, rfl, hT', kp, hr', l, up, rg⟩
      have lm : (ks.map V.int).length = ks.length := List.length_map ..
      refine ⟨_, rfl, r, _, rfl, .inl (SqL.of hr'), _, rfl, _, _, rfl, rfl, _, rfl, ?_⟩
      have old : ∃ (v : Option V) (ks' : List Int), [some (.ref To), some (.int n), some (.int n), some (.ref r), some (.int (0 + (i : Int)))] = [some (.ref To), some (.int n), some (.int n), some (.ref r), v] ∧ True := ⟨_, [], rfl, trivial⟩
      refine ite2 (fun h1 => ?_) (fun h1 => ?_)
      · refine ⟨_, rfl, To, R, 3, rfl, hT', by decide, by decide, fun d H2 d0 d1 hT2 kp2 => ?_⟩
        have hr2 := kp2 _ _ hr' fr.1 fr.2
        have kpH : KeepT To R H H2 := fun b o e x1 x2 => kp2 _ _ (kp b o e x1 x2) x1 x2
        refine ⟨rfl, _, rfl, ite2 (fun h2 => ?_) (fun h2 => ?_)⟩
        · refine ⟨_, rfl, .inl ⟨rfl, _, SqL.of hr2⟩, _, rfl, r, _, _, rfl, rfl, hr2, small1000 (by omega), ?_⟩
          refine ⟨_, ks ++ [0 + (i : Int)], rfl, ?_, fun b o e x1 x2 => ?_, by rw [upd_same, List.map_append]; rfl, ?_, ?_, fun z hz => ?_⟩
          · obtain ⟨row, cc, t1, t2, t3⟩ := hT2
            exact ⟨row, cc, by rw [upd_ne (Ne.symm fr.1)]; exact t1, by rw [upd_ne (Ne.symm fr.2)]; exact t2, t3⟩
          · rw [upd_ne (ne_of_none e hr)]
            exact kpH b o e x1 x2
          · rw [List.length_append]
            show ks.length + 1 ≤ i + 1
            omega
          · rw [List.pairwise_append]
            refine ⟨up, List.pairwise_singleton _ _, fun x hx y hy => ?_⟩
            have : y = 0 + (i : Int) := by simpa using hy
            have := rg x hx
            omega
          · rcases List.mem_append.mp hz with y | y
            · have := rg z y
              omega
            · have : z = 0 + (i : Int) := by simpa using y
              omega
        · exact ⟨_, ks, rfl, hT2, kpH, hr2, by omega, up, fun z hz => by have := rg z hz; omega⟩
      · exact iteF ⟨_, ks, rfl, hT', kp, hr', by omega, up, fun z hz => by have := rg z hz; omega⟩
    · rintro σ H' ⟨v, ks, rfl, hT', kp, hr', l, up, rg⟩
      exact ⟨_, rfl, k r ks H' hr hT' kp hr' up fun z hz => by have := rg z hz; omega⟩
theorem housesJ_at : ∀ {ls : List (O × List Int)} {p : O × List Int}, (ls.map (·.1)).Nodup → p ∈ ls → housesJ ls p.1 = p.2
  | [], _, _, e => by cases e
  | x :: ls, p, nd, e => by
    rw [List.map_cons, List.nodup_cons] at nd
    rcases List.mem_cons.mp e with z | z
    · subst z
      rw [housesJ, if_pos rfl]
    · rw [housesJ, if_neg fun y => nd.1 (by rw [y]; exact List.mem_map_of_mem z)]
      exact housesJ_at nd.2 z
theorem sg_get {H : Hp} {kvl : List (List Key × V)} {ls : List (O × List Int)} {o : O} (hp : Paired (HsAt H) kvl (thP (isO ls))) (m : o ∈ ls.map (·.1)) : ∃ b, valV kvl (keyI (ordI o)) = some (.ref b) ∧ H b = some (.lst ((housesJ ls o).map V.int)) := by
  rcases val_houses (k := keyI (ordI o)) hp with ⟨_, _, h⟩ | ⟨b, h1, h2⟩
  · refine absurd ?_ h
    obtain ⟨p, hm, rfl⟩ := List.mem_map.mp m
    unfold thP isO
    rw [List.map_map, List.map_map]
    exact List.mem_map.mpr ⟨p, hm, rfl⟩
  · rw [houses_J] at h2
    exact ⟨b, h1, h2⟩
theorem sg_at {H : Hp} {kvl : List (List Key × V)} {ls : List (O × List Int)} {i : Nat} {kv : List Key × V} (hp : Paired (HsAt H) kvl (thP (isO ls))) (e : kvl[i]? = some kv) : ∃ p, ls[i]? = some p ∧ kv.1 = keyI (ordI p.1) := by
  obtain ⟨pp, ep, e1, _⟩ := paired_get hp e
  unfold thP isO at ep
  rw [List.map_map, List.getElem?_map] at ep
  cases hx : ls[i]? with
  | none =>
    rw [hx] at ep
    cases ep
  | some x =>
    rw [hx] at ep
    cases Option.some.inj ep
    exact ⟨x, rfl, e1⟩
theorem sg_len {H : Hp} {kvl : List (List Key × V)} {ls : List (O × List Int)} (hp : Paired (HsAt H) kvl (thP (isO ls))) : kvl.length = ls.length := by
  have := Paired.length hp
  rwa [thP, List.length_map, isO, List.length_map] at this
/-- two signed lists of one number, of unlike orders, with one owner -/
def FaceR (p q : O × List Int) (h : Int) : Prop := p.1.n = q.1.n ∧ p.1 ≠ q.1 ∧ h ∈ p.2 ∧ h ∈ q.2
def Faces (ls : List (O × List Int)) (h : Int) : Prop := ∃ p ∈ ls, ∃ q ∈ ls, FaceR p q h
def sp_faces : Sp := fun vs H Q _ => ∃ a kvl ls, vs = [.ref a] ∧ H a = some (.dT kvl) ∧ Paired (HsAt H) kvl (thP (isO ls)) ∧ (ls.map (·.1)).Nodup ∧ ls.length ≤ 24 ∧ (∀ p ∈ ls, p.2.length ≤ 6 ∧ ∀ h ∈ p.2, 0 ≤ h ∧ h < 6) ∧
  ∀ (r : Addr) (hs : List Int) (H' : Hp), H r = none → Same H H' → H' r = some (.lst (hs.map V.int)) → hs.Pairwise (· < ·) → (∀ h, h ∈ hs ↔ Faces ls h) → Q (.ref r) H'
theorem ok__law_faces (T : Txt K mg t) : FnOk P w K mg base CX0 2 t.f__law_faces t.d__law_faces ["_law_signed"] sp_faces := by
  refine T.F__law_faces.ok sc__law_faces (fun vs H Q E h => ?_) (fun cdv A outer s H vs Q E hr h => ?_)
  · obtain ⟨a, kvl, ls, rfl, _⟩ := h
    rfl
  · obtain ⟨a, kvl, ls, rfl, ha, hp, nd, l24, h6, k⟩ := h
    refine ⟨_, (@pss_cons _ _ _ _ _ (@ps_set _ _ 1 _ _ _ _ sc__law_faces.nd rfl (Or.inl rfl) (@pe_lst _ _ _ _ pa_nil) (by rfl) (by first | exact .inl rfl | exact .inr rfl))
      (@pss_cons _ _ _ _ _ (ps_thaw (ps_for PassesOwn.never rfl (pi_dT (pv 0)) (pg_name (i := 2) sc__law_faces.nd rfl (Or.inl rfl)) (@pss_one _ _ _ (ps_for PassesOwn.never rfl (pi_dTf (pv 0)) (pg_name (i := 3) sc__law_faces.nd rfl (Or.inr rfl)) (@pss_one _ _ _ (ps_if (PW.pt (pw_and (pt_cmpR op_eq (pe_ix ix_tup (pv 2) pe_int (fun _ _ => rfl)) (pe_ix ix_tup (pv 3) pe_int (fun _ _ => rfl)) (nomark _)) (pw_and1 (pt_cmpR (op_neD hr.units) (pv 2) (pv 3) (nomark _))))) (@pss_one _ _ _ (ps_set (i := 1) sc__law_faces.nd rfl (Or.inl rfl) (pe_op op_cat (pv 1) (pe_lcomp (N' := ["_law_k", "_law_signed", "_law_two"]) (ix := [none, some 0, some 3]) (compOk_is (by kernel_rfl)) rfl (@pi_list _ _ _ _ (pe_dget (hu_of hr) (pv 0) (pv 2) (fun _ _ => rfl))) (fun _ _ _ _ => (pg_name (i := 0) nd_4 rfl (Or.inl rfl) (.inr rfl))) (fun _ _ _ _ => (pif_one (pt_cmpR (op_in_seqK (K := K) rfl) (pv 0) (pe_dget (hu_of hr) (pv 1) (pv 2) (fun _ _ => rfl)) (by with_unfolding_all rfl)))) (fun _ _ _ _ => (pv 0)))))) pss_nil))))))
      (@pss_one _ _ _ (ps_ret (pe_callB (call_sortedS rfl) rfl T.n_sorted boot_sorted (pa_more (pe_callTy (call_setI rfl) rfl T.n_set boot_set (pa_more (pv 1) pa_nil)) pa_nil)))))), ?_⟩
    have len := sg_len hp
    refine ⟨(by show 0 ≤ sizeLine; decide), fun r0 hr0 => ?_⟩
    have s0 := same_upd (o := .lst []) hr0
    have ha0 := s0 _ _ ha
    refine ⟨_, rfl, a, kvl, rfl, ha0, fun o => ?_⟩
    have hz0 : ∀ b u, H b = some u → b ≠ a → upd (upd H r0 (.lst [])) a (.frz o (.dT kvl)) b = some u := fun b u e z => by rw [upd_ne z]; exact s0 _ _ e
    refine for_dT (fun i σ H' => ∃ v w r fs, σ = [some (.ref a), some (.ref r), v, w] ∧ Same (upd (upd H r0 (.lst [])) a (.frz o (.dT kvl))) H' ∧ H' r = some (.lst (fs.map V.int)) ∧ fs.length ≤ 144 * i ∧ ∀ h, h ∈ fs ↔ ∃ p ∈ ls.take i, ∃ q ∈ ls, FaceR p q h) ⟨none, none, r0, [], rfl, Same.refl _, by rw [upd_ne (ne_of_none ha hr0).symm]; exact upd_same, Nat.le_refl _, fun h => by simp⟩ ?_ ?_ ?_
    · rintro i σ H' hi ⟨v, w, r, fs, rfl, sm, _⟩
      exact sm _ _ upd_same
    · rintro i kv b σ H' ek eb ⟨v, w, r, fs, rfl, sm, hr', lf, mf⟩
      obtain ⟨p, ep, ekp⟩ := sg_at hp ek
      have pm : p ∈ ls := List.mem_of_getElem? ep
      rw [ekp] at eb
      have ib := eb
      rw [← ordV_key] at ib
      have frz : ∀ {H2 : Hp}, Same (upd (upd H r0 (.lst [])) a (.frz o (.dT kvl))) H2 → H2 a = some (.frz o (.dT kvl)) := fun s => s _ _ upd_same
      -- a list of the dict, in every later heap
      have getL : ∀ {H2 : Hp} {x : O × List Int}, x ∈ ls → Same (upd (upd H r0 (.lst [])) a (.frz o (.dT kvl))) H2 → ∃ c, valV kvl (keyI (ordI x.1)) = some (.ref c) ∧ H2 c = some (.lst (x.2.map V.int)) := fun {H2 x} hx s => by
        obtain ⟨c, e1, e2⟩ := sg_get hp (List.mem_map_of_mem hx)
        rw [housesJ_at nd hx] at e2
        exact ⟨c, e1, s _ _ (hz0 _ _ e2 (ne_of e2 ha (by intro z; cases z)))⟩
      refine ⟨_, rfl, a, o, kvl, rfl, frz sm, ?_⟩
      refine for_dT (fun j σ H2 => ∃ w r fs, σ = [some (.ref a), some (.ref r), some (.ref b), w] ∧ Same H' H2 ∧ H2 r = some (.lst (fs.map V.int)) ∧ fs.length ≤ 144 * i + 6 * j ∧ ∀ h, h ∈ fs ↔ (∃ p ∈ ls.take i, ∃ q ∈ ls, FaceR p q h) ∨ ∃ q ∈ ls.take j, FaceR p q h) ⟨w, r, fs, rfl, Same.refl _, hr', lf, fun h => by rw [mf h]; simp⟩ ?_ ?_ ?_
      · rintro j σ H2 hj ⟨w, r, fs, rfl, s2, _⟩
        exact frz (sm.trans s2)
      · rintro j kv2 b2 σ H2 ek2 eb2 ⟨w, r, fs, rfl, s2, hr2, lf2, mf2⟩
        obtain ⟨q, eq, ekq⟩ := sg_at hp ek2
        have qm : q ∈ ls := List.mem_of_getElem? eq
        have hj : j < 24 := by have := (List.getElem?_eq_some_iff.mp eq).1; omega
        have hi : i < 24 := by have := (List.getElem?_eq_some_iff.mp ep).1; omega
        rw [ekq] at eb2
        have ib2 := eb2
        rw [← ordV_key] at ib2
        have same : ∀ h, ¬ FaceR p q h → ((∃ p ∈ ls.take i, ∃ q ∈ ls, FaceR p q h) ∨ (∃ q ∈ ls.take j, FaceR p q h) ↔ (∃ p ∈ ls.take i, ∃ q ∈ ls, FaceR p q h) ∨ ∃ q ∈ ls.take (j + 1), FaceR p q h) := fun h nf => by
          rw [take_snoc eq]
          constructor
          · rintro (z | ⟨y, hy, z⟩)
            · exact .inl z
            · exact .inr ⟨y, List.mem_append.mpr (.inl hy), z⟩
          · rintro (z | ⟨y, hy, z⟩)
            · exact .inl z
            · rcases List.mem_append.mp hy with y1 | y1
              · exact .inr ⟨y, y1, z⟩
              · rw [List.mem_singleton.mp y1] at z
                exact absurd z nf
        have ib' := s2 _ _ ib
        refine ⟨_, rfl, b, ordV p.1, 1, .int p.1.n, rfl, rfl, SqT.of ib', rfl, _, rfl, b2, ordV q.1, 1, .int q.1.n, rfl, rfl, SqT.of ib2, rfl, rfl, _, rfl, ite2 (fun z1 => ?_) (fun z1 => ?_)⟩
        case refine_2 =>
          have n1 : ¬ p.1.n = q.1.n := fun z => z1 (by simp [z])
          exact iteF ⟨_, r, fs, rfl, s2, hr2, by omega, fun h => by rw [mf2 h]; exact same h fun z => n1 z.1⟩
        have n1 : p.1.n = q.1.n := by simpa using z1
        refine ⟨_, rfl, _, rfl, ordDt p.1, ordDt q.1, hasD_ord ⟨b, rfl, ib'⟩, hasD_ord ⟨b2, rfl, ib2⟩, dep_ord _, _, rfl, ?_⟩
        rw [eqD_ord]
        by_cases epq : p.1 = q.1
        · rw [decide_eq_true epq]
          exact iteF ⟨_, r, fs, rfl, s2, hr2, by omega, fun h => by rw [mf2 h]; exact same h fun z => z.2.1 epq⟩
        rw [decide_eq_false epq]
        refine iteT ?_
        obtain ⟨c, vc, hc⟩ := getL pm (sm.trans s2)
        obtain ⟨d, vd, _⟩ := getL qm (sm.trans s2)
        refine ⟨_, rfl, _, rfl, _, rfl, a, .ref c, rfl, .inr ⟨kvl, keyI (ordI p.1), b, .inr ⟨o, frz (sm.trans s2)⟩, rfl, s2 _ _ eb, vc.symm⟩, c, rfl, ⟨_, SqL.of hc⟩, ?_⟩
        refine lc_list (K := K) (a := c) (xs := p.2.map V.int) (fun n ys σ H3 => ∃ v, σ = [v, some (.ref a), some (.ref b2)] ∧ Same H2 H3 ∧ ys = ((p.2.take n).filter fun h => decide (h ∈ q.2)).map V.int) ⟨none, rfl, Same.refl _, by simp⟩ ?_ ?_ ?_
        · rintro n ys σ H3 hn ⟨v, rfl, s3, rfl⟩
          refine ⟨SqL.of (s3 _ _ hc), len1000 ?_⟩
          rw [List.length_map]
          refine Nat.le_trans (List.length_filter_le _ _) ?_
          have := (h6 p pm).1
          rw [List.length_take]
          omega
        · rintro n x ys σ H3 hx ⟨v, rfl, s3, rfl⟩
          obtain ⟨z, ez, rfl⟩ : ∃ z, p.2[n]? = some z ∧ x = .int z := by
            rw [List.getElem?_map] at hx
            cases e : p.2[n]? with
            | none => rw [e] at hx; cases hx
            | some z => rw [e] at hx; exact ⟨z, rfl, (Option.some.inj hx).symm⟩
          obtain ⟨d', vd', hd'⟩ := getL qm ((sm.trans s2).trans s3)
          refine ⟨_, rfl, _, rfl, _, rfl, a, .ref d', rfl, .inr ⟨kvl, keyI (ordI q.1), b2, .inr ⟨o, frz ((sm.trans s2).trans s3)⟩, rfl, s3 _ _ eb2, vd'.symm⟩, d', _, rfl, .inl (SqL.of hd'), rfl, flat_ints _, _, rfl, ?_⟩
          rw [if_neg (by decide), inV_ints]
          have tk : (List.filter (fun h => decide (h ∈ q.2)) (p.2.take (n + 1))) = (p.2.take n).filter (fun h => decide (h ∈ q.2)) ++ (if z ∈ q.2 then [z] else []) := by
            rw [take_snoc ez, List.filter_append]
            by_cases y : z ∈ q.2 <;> simp [y]
          refine ite2 (fun y => ?_) (fun y => ?_)
          · refine ⟨_, rfl, _, rfl, s3, ?_⟩
            rw [tk, if_pos (of_decide_eq_true y), List.map_append]
            rfl
          · refine ⟨_, rfl, s3, ?_⟩
            rw [tk, if_neg (fun w => y (decide_eq_true w)), List.append_nil]
        · rintro ys σ H3 ⟨v, rfl, s3, rfl⟩ e he
          rw [List.length_map, List.take_length]
          have s4 := s3.trans (same_upd (o := .lst ((p.2.filter fun h => decide (h ∈ q.2)).map V.int)) he)
          have lq : (p.2.filter fun h => decide (h ∈ q.2)).length ≤ 6 := Nat.le_trans (List.length_filter_le _ _) (h6 p pm).1
          refine ⟨r, e, fs.map V.int, _, rfl, rfl, s4 _ _ hr2, upd_same, ?_, fun e2 he2 => ?_⟩
          · rw [List.length_map, List.length_map]
            have : 4000 ≤ sizeLine := by decide
            omega
          · refine ⟨_, e2, fs ++ p.2.filter fun h => decide (h ∈ q.2), rfl, (s2.trans s4).trans (same_upd he2), by rw [upd_same, List.map_append], ?_, fun h => ?_⟩
            · rw [List.length_append]
              omega
            · rw [List.mem_append, mf2 h, take_snoc eq, List.mem_filter, decide_eq_true_iff]
              constructor
              · rintro ((z | ⟨y, hy, z⟩) | ⟨z, w⟩)
                · exact .inl z
                · exact .inr ⟨y, List.mem_append.mpr (.inl hy), z⟩
                · exact .inr ⟨q, by simp, n1, epq, z, w⟩
              · rintro (z | ⟨y, hy, z⟩)
                · exact .inl (.inl z)
                · rcases List.mem_append.mp hy with y1 | y1
                  · exact .inl (.inr ⟨y, y1, z⟩)
                  · rw [List.mem_singleton.mp y1] at z
                    exact .inr ⟨z.2.2.1, z.2.2.2⟩
      · rintro σ H2 ⟨w, r, fs, rfl, s2, hr2, lf2, mf2⟩
        rw [len, List.take_length] at mf2
        refine ⟨_, w, r, fs, rfl, sm.trans s2, hr2, by omega, fun h => ?_⟩
        rw [mf2 h, take_snoc ep]
        constructor
        · rintro (⟨x, hx, z⟩ | z)
          · exact ⟨x, List.mem_append.mpr (.inl hx), z⟩
          · exact ⟨p, by simp, z⟩
        · rintro ⟨x, hx, z⟩
          rcases List.mem_append.mp hx with y | y
          · exact .inl ⟨x, y, z⟩
          · rw [List.mem_singleton.mp y] at z
            exact .inr z
    · rintro σ H' ⟨v, v2, r, fs, rfl, sm, hr', lf, mf⟩
      rw [len, List.take_length] at mf
      have hfz := sm _ _ (upd_same (H := upd H r0 (.lst [])) (a := a) (o := .frz o (.dT kvl)))
      refine ⟨a, o, .dT kvl, hfz, fun o' u' z => ?_, True.intro, ?_⟩
      · have z' : H a = some (.frz o' u') := z
        rw [ha] at z'
        cases z'
      have sT : Same H (upd H' a (.dT kvl)) := fun c u hc => by
        by_cases z : c = a
        · subst z
          rw [upd_same, ← hc, ha]
        · rw [upd_ne z]
          exact sm _ _ (hz0 _ _ hc z)
      have hrT : upd H' a (.dT kvl) r = some (.lst (fs.map V.int)) := by
        rw [upd_ne (ne_of hr' hfz (by intro z; cases z))]
        exact hr'
      refine ⟨_, rfl, r, fs, rfl, SqL.of hrT, fun z hz => ?_, fun q js hq hjs hmem => ?_⟩
      · obtain ⟨p, hp', _, _, f⟩ := (mf z).mp hz
        exact (h6 p hp').2 z f.2.2.1
      have sq := same_upd (o := IsSet w q js) hq
      refine ⟨q, js, rfl, upd_same, hjs, fun r2 hr2 => ?_⟩
      obtain ⟨_, _, up, h6', _⟩ := wkF_all _ (led_mem true) js hjs
      refine k r2 (js.map fun (j : Nat) => (j : Int)) _ (sT.free (sq.free hr2)) ((sT.trans sq).trans (same_upd hr2)) (by rw [upd_same, List.map_map]; rfl) (List.pairwise_map.mpr (up.imp fun h => by omega)) fun h => ?_
      rw [List.mem_map]
      constructor
      · rintro ⟨j, hj, rfl⟩
        exact (mf _).mp ((hmem j).mp hj)
      · intro f
        have hf := (mf h).mpr f
        obtain ⟨p, hp', _, _, f'⟩ := f
        obtain ⟨z0, _⟩ := (h6 p hp').2 h f'.2.2.1
        obtain ⟨j, rfl⟩ := Int.eq_ofNat_of_zero_le z0
        exact ⟨j, (hmem j).mpr hf, rfl⟩
/-! joint purses: two unlike orders of one number that are both ready share an honest owner, if the purse is sure -/
theorem sub_len {α : Type} [DecidableEq α] : ∀ {A B : List α}, A.Nodup → (∀ x ∈ A, x ∈ B) → A.length ≤ B.length
  | [], B, _, _ => Nat.zero_le _
  | a :: A, B, nd, h => by
    rw [List.nodup_cons] at nd
    have ha := h a (by simp)
    have ih := sub_len (A := A) (B := B.erase a) nd.2 fun x hx => by
      refine (List.mem_erase_of_ne fun e => ?_).mpr (h x (by simp [hx]))
      subst e
      exact nd.1 hx
    rw [List.length_erase_of_mem ha] at ih
    have : 0 < B.length := List.length_pos_of_mem ha
    rw [List.length_cons]
    omega
theorem filter_both {α : Type} (f : α → Bool) : ∀ l : List α, l.length = (l.filter f).length + (l.filter fun x => !f x).length
  | [] => rfl
  | a :: l => by
    have ih := filter_both f l
    cases e : f a with
    | true =>
      rw [List.filter_cons_of_pos e, List.filter_cons_of_neg (by rw [e]; decide), List.length_cons, List.length_cons]
      omega
    | false =>
      rw [List.filter_cons_of_neg (by rw [e]; decide), List.filter_cons_of_pos (by rw [e]; rfl), List.length_cons, List.length_cons]
      omega
/-- those of A that are not in ks -/
def hon (ks A : List Int) : List Int := A.filter fun h => decide (h ∉ ks)
theorem hon_len {ks A : List Int} (nd : A.Nodup) : A.length ≤ (hon ks A).length + ks.length := by
  have e : A.length = (hon ks A).length + (A.filter fun h => !decide (h ∉ ks)).length := filter_both (fun h => decide (h ∉ ks)) _
  have l : (A.filter fun h => !decide (h ∉ ks)).length ≤ ks.length := sub_len (nd.filter _) fun x hx => by
    have := (List.mem_filter.mp hx).2
    simpa using this
  omega
def rowI (n : Nat) : List Int := (List.range n).map fun (i : Nat) => (i : Int)
theorem mem_rowI {n : Nat} {x : Int} : x ∈ rowI n ↔ 0 ≤ x ∧ x < n := by
  unfold rowI
  rw [List.mem_map]
  constructor
  · rintro ⟨i, hi, rfl⟩
    have := List.mem_range.mp hi
    omega
  · rintro ⟨h0, h1⟩
    exact ⟨x.toNat, List.mem_range.mpr (by omega), by omega⟩
theorem nodup_rowI (n : Nat) : (rowI n).Nodup := by
  unfold rowI
  exact List.pairwise_map.mpr (List.nodup_range.imp fun h e => h (by omega))
theorem len_rowI (n : Nat) : (rowI n).length = n := by unfold rowI; rw [List.length_map, List.length_range]
/-- the honest of n owners are n less the cheats -/
theorem hon_row {ks : List Int} {n : Nat} (nd : ks.Nodup) (h : ∀ k ∈ ks, 0 ≤ k ∧ k < n) : (hon ks (rowI n)).length + ks.length = n := by
  have e : (rowI n).length = (hon ks (rowI n)).length + ((rowI n).filter fun h => !decide (h ∉ ks)).length := filter_both (fun h => decide (h ∉ ks)) _
  rw [len_rowI] at e
  have l1 : ((rowI n).filter fun h => !decide (h ∉ ks)).length ≤ ks.length := sub_len ((nodup_rowI n).filter _) fun x hx => by
    have := (List.mem_filter.mp hx).2
    simpa using this
  have l2 : ks.length ≤ ((rowI n).filter fun h => !decide (h ∉ ks)).length := sub_len nd fun x hx => List.mem_filter.mpr ⟨mem_rowI.mpr (h x hx), by simpa using hx⟩
  omega
/-- two rows of signers that share no honest one: the purse is not sure -/
theorem share {ks A B : List Int} {n : Nat} {en : Int} (nk : ks.Nodup) (hk : ∀ k ∈ ks, 0 ≤ k ∧ k < n) (nA : A.Nodup) (nB : B.Nodup) (hA : ∀ h ∈ A, 0 ≤ h ∧ h < n) (hB : ∀ h ∈ B, 0 ≤ h ∧ h < n)
    (lA : en ≤ A.length) (lB : en ≤ B.length) (dis : ∀ h, h ∉ ks → h ∈ A → h ∈ B → False) : ¬ ((n : Int) - ks.length < 2 * (en - ks.length)) := by
  have l1 := hon_len (ks := ks) nA
  have l2 := hon_len (ks := ks) nB
  have l3 := hon_row nk hk
  have nd : (hon ks A ++ hon ks B).Nodup := by
    rw [List.nodup_append]
    refine ⟨nA.filter _, nB.filter _, fun x hx y hy e => ?_⟩
    subst e
    obtain ⟨x1, x2⟩ := List.mem_filter.mp hx
    obtain ⟨y1, _⟩ := List.mem_filter.mp hy
    exact dis x (of_decide_eq_true x2) x1 y1
  have l4 := sub_len (B := hon ks (rowI n)) nd fun x hx => by
    rcases List.mem_append.mp hx with z | z
    · obtain ⟨z1, z2⟩ := List.mem_filter.mp z
      exact List.mem_filter.mpr ⟨mem_rowI.mpr (hA x z1), z2⟩
    · obtain ⟨z1, z2⟩ := List.mem_filter.mp z
      exact List.mem_filter.mpr ⟨mem_rowI.mpr (hB x z1), z2⟩
  rw [List.length_append] at l4
  omega
/-! ### the mathematics of the law -/
theorem up_unique {α : Type} [DecidableEq α] {R : α → α → Prop} (as : ∀ a b, R a b → R b a → False) : ∀ {xs ys : List α}, xs.Pairwise R → ys.Pairwise R → (∀ z, z ∈ xs ↔ z ∈ ys) → xs = ys
  | [], [], _, _, _ => rfl
  | [], y :: ys, _, _, h => by have := (h y).mpr (by simp); cases this
  | x :: xs, [], _, _, h => by have := (h x).mp (by simp); cases this
  | x :: xs, y :: ys, h1, h2, h => by
    rw [List.pairwise_cons] at h1 h2
    have e : x = y := Classical.byContradiction fun ne => by
      have a1 : x ∈ ys := (List.mem_cons.mp ((h x).mp (by simp))).resolve_left ne
      have a2 : y ∈ xs := (List.mem_cons.mp ((h y).mpr (by simp))).resolve_left fun z => ne z.symm
      exact as _ _ (h1.1 y a2) (h2.1 x a1)
    subst e
    rw [up_unique as h1.2 h2.2 fun z => ?_]
    constructor
    · intro hz
      refine (List.mem_cons.mp ((h z).mp (List.mem_cons_of_mem _ hz))).resolve_left fun e => ?_
      subst e
      exact as _ _ (h1.1 _ hz) (h1.1 _ hz)
    · intro hz
      refine (List.mem_cons.mp ((h z).mpr (List.mem_cons_of_mem _ hz))).resolve_left fun e => ?_
      subst e
      exact as _ _ (h2.1 _ hz) (h2.1 _ hz)
theorem lt_asy (a b : Int) (h1 : a < b) (h2 : b < a) : False := by omega
theorem up_nodup {xs : List Int} (h : xs.Pairwise (· < ·)) : xs.Nodup := h.imp fun h e => by omega
theorem len_mem {α : Type} [DecidableEq α] {A B : List α} (hA : A.Nodup) (hB : B.Nodup) (h : ∀ z, z ∈ A ↔ z ∈ B) : A.length = B.length :=
  Nat.le_antisymm (sub_len hA fun z hz => (h z).mp hz) (sub_len hB fun z hz => (h z).mpr hz)
abbrev Sg := List (O × List Int)
/-- the board's rows and the law's: one order, the same owners -/
def Ak (p q : O × List Int) : Prop := p.1 = q.1 ∧ (∀ h, h ∈ p.2 ↔ h ∈ q.2) ∧ p.2.Nodup ∧ q.2.Pairwise (· < ·)
theorem Ak.len {p q : O × List Int} (h : Ak p q) : p.2.length = q.2.length := len_mem h.2.2.1 (up_nodup h.2.2.2) h.2.1
theorem ak_keys : ∀ {js ls : Sg}, Paired Ak js ls → js.map (·.1) = ls.map (·.1)
  | _, _, .nil => rfl
  | _, _, .cons h r => by rw [List.map_cons, List.map_cons, h.1, ak_keys r]
theorem ak_signed (h : Int) : ∀ {js ls : Sg}, Paired Ak js ls → signedO js h = signedO ls h
  | _, _, .nil => rfl
  | p :: _, q :: _, .cons e r => by
    have ih := ak_signed h r
    unfold signedO at ih ⊢
    by_cases z : h ∈ q.2
    · have y := (e.2.1 h).mpr z
      rw [List.filter_cons, List.filter_cons, decide_eq_true y, decide_eq_true z, if_pos rfl, if_pos rfl, List.map_cons, List.map_cons, e.1, ih]
    · rw [List.filter_cons_of_neg (by simpa using fun y => z ((e.2.1 h).mp y)), List.filter_cons_of_neg (by simpa using z), ih]
theorem ak_carried (en : Int) : ∀ {js ls : Sg}, Paired Ak js ls → carriedI (isO js) en = carriedI (isO ls) en
  | _, _, .nil => rfl
  | p :: _, q :: _, .cons e r => by
    have ih := ak_carried en r
    unfold carriedI isO at ih ⊢
    rw [List.map_cons, List.map_cons]
    by_cases z : en ≤ (q.2.length : Int)
    · rw [List.filter_cons_of_pos (by simpa [e.len] using z), List.filter_cons_of_pos (by simpa using z), List.map_cons, List.map_cons, ih]
      show ordI p.1 :: _ = ordI q.1 :: _
      rw [e.1]
    · rw [List.filter_cons_of_neg (by simpa [e.len] using z), List.filter_cons_of_neg (by simpa using z), ih]
theorem ak_houses (o : O) : ∀ {js ls : Sg}, Paired Ak js ls → (∀ h, h ∈ housesJ js o ↔ h ∈ housesJ ls o) ∧ (housesJ js o).Nodup ∧ (housesJ ls o).Pairwise (· < ·)
  | _, _, .nil => ⟨fun _ => Iff.rfl, .nil, .nil⟩
  | p :: _, q :: _, .cons e r => by
    rw [housesJ, housesJ, e.1]
    by_cases z : q.1 = o
    · rw [if_pos z, if_pos z]
      exact e.2
    · rw [if_neg z, if_neg z]
      exact ak_houses o r
theorem ak_hlen {o : O} {js ls : Sg} (h : Paired Ak js ls) : (housesJ js o).length = (housesJ ls o).length := by
  obtain ⟨h1, h2, h3⟩ := ak_houses o h
  exact len_mem h2 (up_nodup h3) h1
/-- the law's dict, one row set -/
def setJ : Sg → O → List Int → Sg
  | [], o, ns => [(o, ns)]
  | p :: ls, o, ns => if p.1 = o then (p.1, ns) :: ls else p :: setJ ls o ns
theorem houses_set {o u : O} {ns : List Int} : ∀ {ls : Sg}, housesJ (setJ ls o ns) u = if u = o then ns else housesJ ls u
  | [] => by
    show (if o = u then ns else []) = if u = o then ns else []
    by_cases z : u = o
    · rw [if_pos z, if_pos z.symm]
    · rw [if_neg z, if_neg fun (y : o = u) => z y.symm]
  | p :: ls => by
    rw [setJ]
    by_cases z : p.1 = o
    · rw [if_pos z, housesJ, housesJ]
      show (if p.1 = u then ns else housesJ ls u) = _
      by_cases y : u = o
      · rw [if_pos y, if_pos (z.trans y.symm)]
      · rw [if_neg y, if_neg fun w => y (w.symm.trans z)]
        rw [if_neg fun w => y (w.symm.trans z)]
    · rw [if_neg z, housesJ, houses_set (ls := ls), housesJ]
      by_cases y : u = o
      · rw [if_pos y, if_pos y, if_neg fun w => z (w.trans y)]
      · rw [if_neg y, if_neg y]
theorem set_keys {o : O} {ns : List Int} : ∀ {ls : Sg}, (setJ ls o ns).map (·.1) = if o ∈ ls.map (·.1) then ls.map (·.1) else ls.map (·.1) ++ [o]
  | [] => rfl
  | p :: ls => by
    rw [setJ]
    by_cases z : p.1 = o
    · rw [if_pos z, List.map_cons, List.map_cons, if_pos (by rw [← z]; simp)]
    · rw [if_neg z, List.map_cons, set_keys (ls := ls), List.map_cons]
      by_cases y : o ∈ ls.map (·.1)
      · rw [if_pos y, if_pos (List.mem_cons_of_mem _ y)]
      · rw [if_neg y, if_neg fun w => (List.mem_cons.mp w).elim (fun e => z e.symm) y]
        rfl
theorem set_mem {o : O} {ns : List Int} {q : O × List Int} : ∀ {ls : Sg}, q ∈ setJ ls o ns → q = (o, ns) ∨ q ∈ ls
  | [], h => .inl (List.mem_singleton.mp h)
  | p :: ls, h => by
    rw [setJ] at h
    by_cases z : p.1 = o
    · rw [if_pos z] at h
      rcases List.mem_cons.mp h with e | e
      · exact .inl (by rw [e, z])
      · exact .inr (List.mem_cons_of_mem _ e)
    · rw [if_neg z] at h
      rcases List.mem_cons.mp h with e | e
      · exact .inr (by rw [e]; simp)
      · exact (set_mem e).imp id (List.mem_cons_of_mem _)
theorem set_len {o : O} {ns : List Int} : ∀ {ls : Sg}, (setJ ls o ns).length ≤ ls.length + 1
  | [] => Nat.le_refl _
  | p :: ls => by
    rw [setJ]
    by_cases z : p.1 = o
    · rw [if_pos z]; exact Nat.le_succ _
    · rw [if_neg z, List.length_cons, List.length_cons]
      have := set_len (o := o) (ns := ns) (ls := ls)
      omega
/-- the step of both -/
theorem ak_put {o : O} {h : Int} {ns : List Int} (up : ns.Pairwise (· < ·)) : ∀ {js ls : Sg}, Paired Ak js ls → (∀ z, z ∈ ns ↔ z ∈ housesJ ls o ∨ z = h) → Paired Ak (putJ js o h) (setJ ls o ns)
  | _, _, .nil, mm => by
    unfold putJ
    rw [if_neg (by simp [housesJ]), signJ, setJ]
    refine .cons ⟨rfl, fun z => ?_, by simp, up⟩ .nil
    rw [mm z]
    simp [housesJ]
  | p :: js, q :: ls, .cons e r, mm => by
    rw [setJ]
    by_cases z : q.1 = o
    · rw [housesJ, if_pos z] at mm
      rw [if_pos z]
      unfold putJ
      rw [housesJ, e.1, if_pos z]
      by_cases y : h ∈ p.2
      · rw [if_pos y]
        refine .cons ⟨e.1, fun x => ?_, e.2.2.1, up⟩ r
        rw [mm x, ← e.2.1 x]
        constructor
        · exact .inl
        · rintro (w | rfl)
          · exact w
          · exact y
      · rw [if_neg y, signJ, e.1, if_pos z]
        refine .cons ⟨rfl, fun x => ?_, ?_, up⟩ r
        · show x ∈ p.2 ++ [h] ↔ x ∈ ns
          rw [mm x, ← e.2.1 x, List.mem_append, List.mem_singleton]
        · show (p.2 ++ [h]).Nodup
          rw [List.nodup_append]
          refine ⟨e.2.2.1, by simp, fun a ha b hb c => ?_⟩
          rw [List.mem_singleton.mp hb] at c
          exact y (c ▸ ha)
    · rw [housesJ, if_neg z] at mm
      have ih := ak_put up r mm
      rw [if_neg z]
      have e1 : putJ (p :: js) o h = p :: putJ js o h := by
        unfold putJ
        rw [housesJ, e.1, if_neg z, signJ, e.1, if_neg z]
        by_cases y : h ∈ housesJ js o
        · rw [if_pos y, if_pos y]
        · rw [if_neg y, if_neg y]
      rw [e1]
      exact .cons e ih
theorem mem_signed {ls : Sg} (nd : (ls.map (·.1)).Nodup) {u : O} {h : Int} : u ∈ signedO ls h ↔ h ∈ housesJ ls u := by
  unfold signedO
  rw [List.mem_map]
  constructor
  · rintro ⟨p, hp, rfl⟩
    obtain ⟨h1, h2⟩ := List.mem_filter.mp hp
    rw [housesJ_at nd h1]
    exact of_decide_eq_true h2
  · intro hh
    have : ∀ {ls : Sg}, h ∈ housesJ ls u → ∃ p ∈ ls, p.1 = u ∧ h ∈ p.2 := fun {ls} => by
      induction ls with
      | nil => intro z; simp [housesJ] at z
      | cons p r ih =>
        intro z
        rw [housesJ] at z
        by_cases y : p.1 = u
        · rw [if_pos y] at z
          exact ⟨p, by simp, y, z⟩
        · rw [if_neg y] at z
          obtain ⟨q, q1, q2⟩ := ih z
          exact ⟨q, List.mem_cons_of_mem _ q1, q2⟩
    obtain ⟨p, h1, h2, h3⟩ := this hh
    exact ⟨p, List.mem_filter.mpr ⟨h1, decide_eq_true h3⟩, h2⟩
/-- what the law knows of its dict -/
structure MI (pu ow : Int) (ks : List Int) (ls : Sg) : Prop where
  nd : (ls.map (·.1)).Nodup
  od : ∀ p ∈ ls, isOrd 8 p.1 = true ∧ p.1.p = pu ∧ (p.1.n = 0 ∨ p.1.n = 1)
  up : ∀ p ∈ ls, p.2.Pairwise (· < ·) ∧ ∀ h ∈ p.2, 0 ≤ h ∧ h < ow
  hon : ∀ h, h ∉ ks → NoClash (signedO ls h)
theorem MI.nil (pu ow : Int) (ks : List Int) : MI pu ow ks [] := ⟨.nil, fun p h => (by cases h), fun p h => (by cases h), fun h _ o ho => (by cases ho)⟩
theorem MI.houses {pu ow : Int} {ks : List Int} {ls : Sg} (m : MI pu ow ks ls) (o : O) : (housesJ ls o).Pairwise (· < ·) ∧ ∀ h ∈ housesJ ls o, 0 ≤ h ∧ h < ow := by
  have : ∀ {ls : Sg}, (∀ p ∈ ls, p.2.Pairwise (· < ·) ∧ ∀ h ∈ p.2, 0 ≤ h ∧ h < ow) → (housesJ ls o).Pairwise (· < ·) ∧ ∀ h ∈ housesJ ls o, 0 ≤ h ∧ h < ow := fun {ls} => by
    induction ls with
    | nil => intro _; exact ⟨.nil, fun h z => by cases z⟩
    | cons p r ih =>
      intro hh
      rw [housesJ]
      by_cases z : p.1 = o
      · rw [if_pos z]
        exact hh p (by simp)
      · rw [if_neg z]
        exact ih fun q hq => hh q (List.mem_cons_of_mem _ hq)
  exact this m.up
theorem MI.set {pu ow : Int} {ks : List Int} {ls : Sg} (m : MI pu ow ks ls) {o : O} {h : Int} {ns : List Int} (ho : isOrd 8 o = true) (hp : o.p = pu) (hn : o.n = 0 ∨ o.n = 1) (up : ns.Pairwise (· < ·)) (mm : ∀ z, z ∈ ns ↔ z ∈ housesJ ls o ∨ z = h) (h0 : 0 ≤ h) (h1 : h < ow)
    (hc : h ∈ ks ∨ (signedO ls h).any (clashB o) = false) : MI pu ow ks (setJ ls o ns) := by
  have nd' : ((setJ ls o ns).map (·.1)).Nodup := by
    rw [set_keys]
    by_cases z : o ∈ ls.map (·.1)
    · rw [if_pos z]
      exact m.nd
    · rw [if_neg z, List.nodup_append]
      refine ⟨m.nd, by simp, fun a ha b hb c => ?_⟩
      rw [List.mem_singleton.mp hb] at c
      exact z (c ▸ ha)
  refine ⟨nd', fun p hp' => ?_, fun p hp' => ?_, fun k hk => ?_⟩
  · rcases set_mem hp' with rfl | z
    · exact ⟨ho, hp, hn⟩
    · exact m.od p z
  · rcases set_mem hp' with rfl | z
    · refine ⟨up, fun z hz => ?_⟩
      rcases (mm z).mp hz with y | rfl
      · exact (m.houses o).2 z y
      · exact ⟨h0, h1⟩
    · exact m.up p z
  · have ms : ∀ u, u ∈ signedO (setJ ls o ns) k → u ∈ signedO ls k ∨ (u = o ∧ k = h) := fun u hu => by
      rw [mem_signed nd', houses_set] at hu
      by_cases z : u = o
      · rw [if_pos z] at hu
        rcases (mm k).mp hu with y | y
        · exact .inl ((mem_signed m.nd).mpr (z ▸ y))
        · exact .inr ⟨z, y⟩
      · rw [if_neg z] at hu
        exact .inl ((mem_signed m.nd).mpr hu)
    have cl : k = h → ∀ u ∈ signedO ls k, u.p = o.p → u.n = o.n → u = o := fun e u hu p1 p2 => by
      subst e
      have := hc.resolve_left hk
      rw [List.any_eq_false] at this
      have c := this u hu
      unfold clashB at c
      rw [decide_eq_true_iff] at c
      exact Classical.byContradiction fun y => c ⟨fun w => y w.symm, p1.symm, p2.symm⟩
    intro a ha b hb p1 p2
    rcases ms a ha with x | ⟨x1, x2⟩
    · rcases ms b hb with y | ⟨y1, y2⟩
      · exact m.hon k hk a x b y p1 p2
      · rw [y1] at p1 p2 ⊢
        exact cl y2 a x p1 p2
    · rcases ms b hb with y | ⟨y1, y2⟩
      · rw [x1] at p1 p2 ⊢
        exact (cl x2 b y p1.symm p2.symm).symm
      · rw [x1, y1]
/-- who is two-faced, told both ways -/
theorem MI.faces {pu ow : Int} {ks : List Int} {ls : Sg} (m : MI pu ow ks ls) (h : Int) : Faces ls h ↔ 0 ≤ h ∧ h < ow ∧ ¬ NoClash (signedO ls h) := by
  constructor
  · rintro ⟨p, hp, q, hq, e1, e2, e3, e4⟩
    obtain ⟨r0, r1⟩ := (m.up p hp).2 h e3
    refine ⟨r0, r1, fun nc => e2 (nc p.1 ?_ q.1 ?_ ((m.od p hp).2.1.trans (m.od q hq).2.1.symm) e1)⟩
    · exact List.mem_map.mpr ⟨p, List.mem_filter.mpr ⟨hp, decide_eq_true e3⟩, rfl⟩
    · exact List.mem_map.mpr ⟨q, List.mem_filter.mpr ⟨hq, decide_eq_true e4⟩, rfl⟩
  · rintro ⟨_, _, nc⟩
    refine Classical.byContradiction fun no => nc fun o ho u hu p1 p2 => Classical.byContradiction fun ne => no ?_
    obtain ⟨p, hp, rfl⟩ := List.mem_map.mp ho
    obtain ⟨q, hq, rfl⟩ := List.mem_map.mp hu
    obtain ⟨a1, a2⟩ := List.mem_filter.mp hp
    obtain ⟨b1, b2⟩ := List.mem_filter.mp hq
    exact ⟨p, a1, q, b1, p2, ne, of_decide_eq_true a2, of_decide_eq_true b2⟩
theorem MI.cheats {pu ow : Int} {ks : List Int} {ls : Sg} (m : MI pu ow ks ls) {h : Int} (f : Faces ls h) : h ∈ ks :=
  Classical.byContradiction fun z => ((m.faces h).mp f).2.2 (m.hon h z)
/-- a sure purse has never two ready orders of one number -/
theorem MI.one {pu : Int} {n : Nat} {ks : List Int} {ls : Sg} (m : MI pu n ks ls) {en : Int} (nk : ks.Nodup) (hk : ∀ k ∈ ks, 0 ≤ k ∧ k < (n : Int)) (sure : (n : Int) - ks.length < 2 * (en - ks.length)) {p q : O × List Int} (hp : p ∈ ls) (hq : q ∈ ls) (lp : en ≤ (p.2.length : Int)) (lq : en ≤ (q.2.length : Int)) (e : p.1.n = q.1.n) : p.1 = q.1 :=
  Classical.byContradiction fun ne => share nk hk (up_nodup (m.up p hp).1) (up_nodup (m.up q hq).1) (m.up p hp).2 (m.up q hq).2 lp lq (fun h h1 h2 h3 => h1 (m.cheats ⟨p, hp, q, hq, e, ne, h2, h3⟩)) sure
theorem map_nodup {α β : Type} [DecidableEq β] (f : α → β) : ∀ {xs : List α}, xs.Nodup → (∀ a ∈ xs, ∀ b ∈ xs, f a = f b → a = b) → (xs.map f).Nodup
  | [], _, _ => .nil
  | x :: xs, nd, h => by
    rw [List.nodup_cons] at nd
    rw [List.map_cons, List.nodup_cons]
    refine ⟨fun z => ?_, map_nodup f nd.2 fun a ha b hb => h a (List.mem_cons_of_mem _ ha) b (List.mem_cons_of_mem _ hb)⟩
    obtain ⟨y, hy, e⟩ := List.mem_map.mp z
    exact nd.1 (h y (List.mem_cons_of_mem _ hy) x (by simp) e ▸ hy)
def numT (t : List Int) : Int := t.getD 1 0
theorem mem_carried {ls : Sg} {en : Int} {t : List Int} : t ∈ carriedI (isO ls) en ↔ ∃ p ∈ ls, en ≤ (p.2.length : Int) ∧ t = ordI p.1 := by
  unfold carriedI isO
  rw [List.mem_map]
  constructor
  · rintro ⟨x, hx, rfl⟩
    obtain ⟨x1, x2⟩ := List.mem_filter.mp hx
    obtain ⟨p, hp, rfl⟩ := List.mem_map.mp x1
    exact ⟨p, hp, of_decide_eq_true x2, rfl⟩
  · rintro ⟨p, hp, l, rfl⟩
    exact ⟨(ordI p.1, p.2), List.mem_filter.mpr ⟨List.mem_map_of_mem hp, decide_eq_true l⟩, rfl⟩
theorem MI.nums {pu : Int} {n : Nat} {ks : List Int} {ls : Sg} (m : MI pu n ks ls) {en : Int} (nk : ks.Nodup) (hk : ∀ k ∈ ks, 0 ≤ k ∧ k < (n : Int)) (sure : (n : Int) - ks.length < 2 * (en - ks.length)) {ts : List (List Int)} (nd : ts.Nodup) (mt : ∀ t ∈ ts, t ∈ carriedI (isO ls) en) : (ts.map numT).Nodup := by
  refine map_nodup numT nd fun a ha b hb e => ?_
  obtain ⟨p, hp, lp, rfl⟩ := mem_carried.mp (mt a ha)
  obtain ⟨q, hq, lq, rfl⟩ := mem_carried.mp (mt b hb)
  rw [m.one nk hk sure hp hq lp lq e]
/-- a set's members counted -/
theorem set_count {js : List Nat} {ns : List Int} (hjs : js ∈ subsF 6) (mm : ∀ k : Nat, k ∈ js ↔ (k : Int) ∈ ns) (nd : ns.Nodup) (h0 : ∀ z ∈ ns, 0 ≤ z) : js.length = ns.length := by
  obtain ⟨_, _, up, _, _⟩ := wkF_all _ (led_mem true) js hjs
  have e := len_mem (A := js.map fun (j : Nat) => (j : Int)) (B := ns) (up_nodup (List.pairwise_map.mpr (up.imp fun h => by omega))) nd fun z => by
    rw [List.mem_map]
    constructor
    · rintro ⟨j, hj, rfl⟩
      exact (mm j).mp hj
    · intro hz
      obtain ⟨j, rfl⟩ := Int.eq_ofNat_of_zero_le (h0 z hz)
      exact ⟨j, (mm j).mpr hz, rfl⟩
  rwa [List.length_map] at e
/-! ### the law's heap -/
theorem put_none {k : List Key} {v : V} : ∀ {kvs : List (List Key × V)}, (∀ kv ∈ kvs, kv.1 ≠ k) → kvs.map (fun kv => if kv.1 = k then (kv.1, v) else kv) = kvs
  | [], _ => rfl
  | p :: r, h => by rw [List.map_cons, if_neg (h p (by simp)), put_none fun kv hk => h kv (List.mem_cons_of_mem _ hk)]
theorem put_mem {k : List Key} {v : V} {kvs : List (List Key × V)} {kv : List Key × V} (h : kv ∈ putK kvs k v) : kv.2 = v ∨ kv ∈ kvs := by
  unfold putK at h
  by_cases z : (kvs.any fun kv => decide (kv.1 = k)) = true
  · rw [if_pos z] at h
    obtain ⟨q, hq, rfl⟩ := List.mem_map.mp h
    by_cases y : q.1 = k
    · rw [if_pos y]; exact .inl rfl
    · rw [if_neg y]; exact .inr hq
  · rw [if_neg z] at h
    rcases List.mem_append.mp h with y | y
    · exact .inr y
    · rw [List.mem_singleton.mp y]; exact .inl rfl
theorem sg_keys {H : Hp} {k : List Key} : ∀ {kvl : List (List Key × V)} {ls : Sg}, Paired (HsAt H) kvl (thP (isO ls)) → (∀ p ∈ ls, keyI (ordI p.1) ≠ k) → ∀ kv ∈ kvl, kv.1 ≠ k
  | [], _, _, _ => fun kv h => by cases h
  | kv :: kvl, p :: ls, .cons ⟨e, _⟩ r, h => fun q hq => by
    rcases List.mem_cons.mp hq with z | z
    · rw [z, e]
      exact h p (by simp)
    · exact sg_keys r (fun x hx => h x (List.mem_cons_of_mem _ hx)) q z
theorem put_map {H : Hp} {o : O} {r : Addr} {ns : List Int} (hr : H r = some (.lst (ns.map V.int))) : ∀ {kvl : List (List Key × V)} {ls : Sg}, Paired (HsAt H) kvl (thP (isO ls)) → (ls.map (·.1)).Nodup → o ∈ ls.map (·.1) →
    Paired (HsAt H) (kvl.map fun kv => if kv.1 = keyI (ordI o) then (kv.1, .ref r) else kv) (thP (isO (setJ ls o ns)))
  | [], [], _, _, m => by cases m
  | kv :: kvl, p :: ls, .cons ⟨e, b, eb, hb⟩ q, nd, m => by
    rw [List.map_cons, List.nodup_cons] at nd
    have e' : kv.1 = keyI (ordI p.1) := e
    rw [List.map_cons, setJ]
    by_cases z : p.1 = o
    · rw [if_pos z, if_pos (by rw [e', z])]
      have no : ∀ x ∈ kvl, x.1 ≠ keyI (ordI o) := sg_keys q fun x hx y => nd.1 (by rw [z, ← key_inj.mp y]; exact List.mem_map_of_mem hx)
      rw [put_none no]
      exact .cons ⟨e, r, rfl, hr⟩ q
    · rw [if_neg z, if_neg (by rw [e']; exact fun y => z (key_inj.mp y))]
      rw [List.map_cons] at m
      exact .cons ⟨e, b, eb, hb⟩ (put_map hr q nd.2 ((List.mem_cons.mp m).resolve_left fun y => z y.symm))
theorem set_new {o : O} {ns : List Int} : ∀ {ls : Sg}, o ∉ ls.map (·.1) → setJ ls o ns = ls ++ [(o, ns)]
  | [], _ => rfl
  | p :: ls, h => by
    rw [List.map_cons, List.mem_cons] at h
    rw [setJ, if_neg (fun z => h (.inl z.symm)), set_new fun z => h (.inr z)]
    rfl
theorem put_sg {H : Hp} {o : O} {r : Addr} {ns : List Int} (hr : H r = some (.lst (ns.map V.int))) {kvl : List (List Key × V)} {ls : Sg} (hp : Paired (HsAt H) kvl (thP (isO ls))) (nd : (ls.map (·.1)).Nodup) : Paired (HsAt H) (putK kvl (keyI (ordI o)) (.ref r)) (thP (isO (setJ ls o ns))) := by
  by_cases m : o ∈ ls.map (·.1)
  · obtain ⟨b, h1, _⟩ := sg_get hp m
    unfold putK
    rw [valV_any, h1, if_pos (show (some (V.ref b)).isSome = true from rfl)]
    exact put_map hr hp nd m
  · have no : valV kvl (keyI (ordI o)) = none := by
      rcases val_houses (k := keyI (ordI o)) hp with ⟨h, _⟩ | ⟨b, h, _⟩
      · exact h
      · obtain ⟨kv, hm, _⟩ := List.mem_map.mp (val_mem h)
        have := sg_keys (k := keyI (ordI o)) hp fun p hp' y => m (by rw [← key_inj.mp y]; exact List.mem_map_of_mem hp')
        unfold valV at h
        cases hf : kvl.find? (fun kv => decide (kv.1 = keyI (ordI o))) with
        | none => rw [hf] at h; cases h
        | some q =>
          have q1 := List.find?_some hf
          exact absurd (of_decide_eq_true q1) (this q (List.mem_of_find?_eq_some hf))
    rw [putK_new _ no, set_new m]
    have e : thP (isO (ls ++ [(o, ns)])) = thP (isO ls) ++ [(keyI (ordI o), ns)] := by
      unfold thP isO
      rw [List.map_append, List.map_append]
      rfl
    rw [e]
    exact paired_app hp ⟨rfl, r, rfl, hr⟩
theorem paired_keep {H H' : Hp} : ∀ {kvs : List (List Key × V)} {ps : Things}, Paired (HsAt H) kvs ps → (∀ kv ∈ kvs, ∀ b xs, kv.2 = .ref b → H b = some (.lst xs) → H' b = some (.lst xs)) → Paired (HsAt H') kvs ps
  | _, _, .nil, _ => .nil
  | kv :: kvs, p :: ps, .cons ⟨e, b, eb, hb⟩ r, h => .cons ⟨e, b, eb, h kv (by simp) b _ eb hb⟩ (paired_keep r fun q hq => h q (List.mem_cons_of_mem _ hq))
theorem notL {H : Hp} {kvs : List (List Key × V)} {ps : Things} (hp : Paired (HsAt H) kvs ps) {c : Addr} {u : HO} (hc : H c = some u) (hu : ∀ xs, u ≠ .lst xs) : NotIn kvs c := fun kv hm e => by
  obtain ⟨i, hi, ei⟩ := List.mem_iff_getElem.mp hm
  obtain ⟨pp, _, _, b, e2, e3⟩ := paired_get hp (show kvs[i]? = some kv by rw [← ei]; simp [hi])
  rw [e] at e2
  cases e2
  rw [e3] at hc
  exact hu _ (Option.some.inj hc).symm
theorem notNew {H : Hp} {kvs : List (List Key × V)} {ps : Things} (hp : Paired (HsAt H) kvs ps) {r : Addr} (hr : H r = none) : NotIn kvs r := fun kv hm e => refs_old hr hp (List.mem_map.mpr ⟨kv, hm, e⟩)
theorem JointAt.but {t : Ad} {H H' : Hp} {j dj : Addr} {pu ow en : Int} {C B : Addr} {ks : List Int} {dB S : Addr} {kvs : List (List Key × V)} {is : IThings} (J : JointAt t H j dj pu ow en C B ks dB S kvs is) {Z : Addr → Prop}
    (hk : ∀ b o, H b = some o → ¬ Z b → H' b = some o) (z1 : ¬ Z j) (z2 : ¬ Z C) (z3 : ¬ Z B) (z4 : ¬ Z S) (z5 : ∀ kv ∈ kvs, ∀ b, kv.2 = .ref b → ¬ Z b) : JointAt t H' j dj pu ow en C B ks dB S kvs is :=
  ⟨hk _ _ J.ob z1, hk _ _ J.ch z2, ⟨hk _ _ J.bd.ob z3, hk _ _ J.bd.sg z4, paired_keep J.bd.hs fun kv hm b xs e h => hk _ _ h (z5 kv hm b e), J.bd.un⟩, J.ni⟩
structure Lw (t : Ad) (H : Hp) (To R j dj : Addr) (pu ow en : Int) (C B : Addr) (ks : List Int) (dB S : Addr) (kvs : List (List Key × V)) (js : Sg) (L : Addr) (kvl : List (List Key × V)) (ls : Sg) (G : Addr) (gs : List Int) (N : Addr) : Prop where
  tn : Town To R H
  J : JointAt t H j dj pu ow en C B ks dB S kvs (isO js)
  CT : C ≠ To ∧ C ≠ R
  hL : H L = some (.dT kvl)
  LS : L ≠ S
  hl : Paired (HsAt H) kvl (thP (isO ls))
  lT : NotIn kvl To ∧ NotIn kvl R
  lj : ∀ kv ∈ kvl, ∀ c, kv.2 = .ref c → NotIn kvs c
  hG : H G = some (.lst (gs.map V.int))
  GT : G ≠ To ∧ G ≠ R
  hN : H N = some (.lst (ks.map V.int))
  NT : N ≠ To ∧ N ≠ R
  jT : NotIn kvs To ∧ NotIn kvs R ∧ NotIn kvs G ∧ NotIn kvs N
section
variable {H H' : Hp} {To R j dj : Addr} {pu ow en : Int} {C B : Addr} {ks : List Int} {dB S : Addr} {kvs kvs' : List (List Key × V)} {js js' : Sg} {L : Addr} {kvl : List (List Key × V)} {ls : Sg} {G : Addr} {gs : List Int} {N : Addr}
theorem Lw.same (W : Lw t H To R j dj pu ow en C B ks dB S kvs js L kvl ls G gs N) (s : Same H H') : Lw t H' To R j dj pu ow en C B ks dB S kvs js L kvl ls G gs N :=
  ⟨W.tn.same s, W.J.same s, W.CT, s _ _ W.hL, W.LS, paired_keep W.hl fun _ _ _ _ _ h => s _ _ h, W.lT, W.lj, s _ _ W.hG, W.GT, s _ _ W.hN, W.NT, W.jT⟩
theorem Town.neX {To R b : Addr} {H : Hp} (h : Town To R H) {u : HO} (hb : H b = some u) (hu : ∀ xs, u ≠ .lst xs) : b ≠ To ∧ b ≠ R := by
  obtain ⟨row, c, h1, h2, h3⟩ := h
  exact ⟨ne_of hb h1 (hu _), ne_of hb h2 (hu _)⟩
theorem Lw.draw (W : Lw t H To R j dj pu ow en C B ks dB S kvs js L kvl ls G gs N) (kp : KeepT To R H H') (tn : Town To R H') : Lw t H' To R j dj pu ow en C B ks dB S kvs js L kvl ls G gs N := by
  have a1 := W.tn.neX W.J.ob fun _ z => by cases z
  have a2 := W.tn.neX W.J.bd.ob fun _ z => by cases z
  have a3 := W.tn.neX W.J.bd.sg fun _ z => by cases z
  have a4 := W.tn.neX W.hL fun _ z => by cases z
  refine ⟨tn, W.J.but (Z := fun b => b = To ∨ b = R) (fun b o e z => kp _ _ e (fun y => z (.inl y)) fun y => z (.inr y)) (fun z => z.elim a1.1 a1.2) (fun z => z.elim W.CT.1 W.CT.2) (fun z => z.elim a2.1 a2.2) (fun z => z.elim a3.1 a3.2) (fun kv hm b e z => ?_), W.CT, kp _ _ W.hL a4.1 a4.2, W.LS, paired_keep W.hl fun kv hm b xs e h => kp _ _ h (fun z => ?_) fun z => ?_, W.lT, W.lj, kp _ _ W.hG W.GT.1 W.GT.2, W.GT, kp _ _ W.hN W.NT.1 W.NT.2, W.NT, W.jT⟩
  · rcases z with rfl | rfl
    · exact W.jT.1 kv hm e
    · exact W.jT.2.1 kv hm e
  · exact W.lT.1 kv hm (z ▸ e)
  · exact W.lT.2 kv hm (z ▸ e)
theorem Lw.put (W : Lw t H To R j dj pu ow en C B ks dB S kvs js L kvl ls G gs N) (nd : (ls.map (·.1)).Nodup) {r : Addr} {ns : List Int} {o : O} (hr : H r = some (.lst (ns.map V.int))) (rT : r ≠ To ∧ r ≠ R) (rj : NotIn kvs r) :
    Lw t (upd H L (.dT (putK kvl (keyI (ordI o)) (.ref r)))) To R j dj pu ow en C B ks dB S kvs js L (putK kvl (keyI (ordI o)) (.ref r)) (setJ ls o ns) G gs N := by
  have kp : ∀ b u, H b = some u → ¬ b = L → upd H L (.dT (putK kvl (keyI (ordI o)) (.ref r))) b = some u := fun b u e z => by rw [upd_ne z]; exact e
  have nl : ∀ {b : Addr} {u : HO}, H b = some u → (∀ ks, u ≠ .dT ks) → ¬ b = L := fun hb hu => ne_of hb W.hL (hu _)
  obtain ⟨row, c, t1, t2, t3⟩ := W.tn
  refine ⟨⟨row, c, kp _ _ t1 (nl t1 fun _ z => by cases z), kp _ _ t2 (nl t2 fun _ z => by cases z), t3⟩, W.J.but (Z := fun b => b = L) kp (nl W.J.ob fun _ z => by cases z) (nl W.J.ch fun _ z => by cases z) (nl W.J.bd.ob fun _ z => by cases z) (fun z => W.LS z.symm) (fun kv hm b e => ?_), W.CT, upd_same, W.LS, ?_, ⟨fun kv hm e => ?_, fun kv hm e => ?_⟩, fun kv hm c e => ?_, kp _ _ W.hG (nl W.hG fun _ z => by cases z), W.GT, kp _ _ W.hN (nl W.hN fun _ z => by cases z), W.NT, W.jT⟩
  · intro z
    exact notL W.J.bd.hs W.hL (fun _ z => by cases z) kv hm (z ▸ e)
  · exact paired_keep (put_sg hr W.hl nd) fun kv hm b xs e h => kp _ _ h (nl h fun _ z => by cases z)
  · rcases put_mem hm with y | y
    · rw [y] at e
      exact rT.1 (V.ref.inj e)
    · exact W.lT.1 kv y e
  · rcases put_mem hm with y | y
    · rw [y] at e
      exact rT.2 (V.ref.inj e)
    · exact W.lT.2 kv y e
  · rcases put_mem hm with y | y
    · rw [y] at e
      exact V.ref.inj e ▸ rj
    · exact W.lj kv y c e
theorem Lw.sign (W : Lw t H To R j dj pu ow en C B ks dB S kvs js L kvl ls G gs N) (J : JointAt t H' j dj pu ow en C B ks dB S kvs' (isO js')) (kp : ∀ c u, H c = some u → c ≠ S → NotIn kvs c → H' c = some u) (ni : ∀ c u, H c = some u → NotIn kvs c → NotIn kvs' c) :
    Lw t H' To R j dj pu ow en C B ks dB S kvs' js' L kvl ls G gs N := by
  have nS : ∀ {b : Addr} {u : HO}, H b = some u → (∀ ks, u ≠ .dT ks) → b ≠ S := fun hb hu => ne_of hb W.J.bd.sg (hu _)
  obtain ⟨row, c, t1, t2, t3⟩ := W.tn
  refine ⟨⟨row, c, kp _ _ t1 (nS t1 fun _ z => by cases z) W.jT.1, kp _ _ t2 (nS t2 fun _ z => by cases z) W.jT.2.1, t3⟩, J, W.CT, kp _ _ W.hL W.LS (notL W.J.bd.hs W.hL fun _ z => by cases z), W.LS, paired_keep W.hl fun kv hm b xs e h => kp _ _ h (nS h fun _ z => by cases z) (W.lj kv hm b e), W.lT, fun kv hm c e => ?_, kp _ _ W.hG (nS W.hG fun _ z => by cases z) W.jT.2.2.1, W.GT, kp _ _ W.hN (nS W.hN fun _ z => by cases z) W.jT.2.2.2, W.NT, ni _ _ t1 W.jT.1, ni _ _ t2 W.jT.2.1, ni _ _ W.hG W.jT.2.2.1, ni _ _ W.hN W.jT.2.2.2⟩
  obtain ⟨i, hi, ei⟩ := List.mem_iff_getElem.mp hm
  obtain ⟨pp, _, _, b, e2, e3⟩ := paired_get W.hl (show kvl[i]? = some kv by rw [← ei]; simp [hi])
  rw [e] at e2
  cases e2
  exact ni _ _ e3 (W.lj kv hm _ e)
/-- a tuple stays under a signature -/
theorem Lw.tupS (W : Lw t H To R j dj pu ow en C B ks dB S kvs js L kvl ls G gs N) (kp : ∀ c u, H c = some u → c ≠ S → NotIn kvs c → H' c = some u) {b : Addr} {xs : List V} (hb : H b = some (.tup xs)) : H' b = some (.tup xs) :=
  kp _ _ hb (ne_of hb W.J.bd.sg (by intro z; cases z)) (notL W.J.bd.hs hb fun _ z => by cases z)
end
/-! ### the second half: signatures of the law's own choice -/
theorem houses_sign {o u : O} {h : Int} : ∀ {js : Sg}, housesJ (signJ js o h) u = if u = o then housesJ js o ++ [h] else housesJ js u
  | [] => by
    show (if o = u then [h] else []) = if u = o then [] ++ [h] else []
    by_cases z : u = o
    · rw [if_pos z, if_pos z.symm]; rfl
    · rw [if_neg z, if_neg fun (y : o = u) => z y.symm]
  | p :: js => by
    rw [signJ]
    by_cases z : p.1 = o
    · rw [if_pos z]
      show (if p.1 = u then p.2 ++ [h] else housesJ js u) = if u = o then housesJ (p :: js) o ++ [h] else housesJ (p :: js) u
      rw [housesJ, if_pos z, housesJ]
      by_cases y : u = o
      · rw [if_pos y, if_pos (z.trans y.symm)]
      · rw [if_neg y, if_neg fun w => y (w.symm.trans z), if_neg fun w => y (w.symm.trans z)]
    · rw [if_neg z, housesJ, houses_sign (js := js), housesJ, housesJ, if_neg z]
      by_cases y : u = o
      · rw [if_pos y, if_pos y, if_neg fun w => z (w.trans y)]
      · rw [if_neg y, if_neg y]
theorem sign_keys {o : O} {h : Int} : ∀ {js : Sg}, (signJ js o h).map (·.1) = if o ∈ js.map (·.1) then js.map (·.1) else js.map (·.1) ++ [o]
  | [] => rfl
  | p :: ls => by
    rw [signJ]
    by_cases z : p.1 = o
    · rw [if_pos z, List.map_cons, List.map_cons, if_pos (by rw [← z]; simp)]
    · rw [if_neg z, List.map_cons, sign_keys (js := ls), List.map_cons]
      by_cases y : o ∈ ls.map (·.1)
      · rw [if_pos y, if_pos (List.mem_cons_of_mem _ y)]
      · rw [if_neg y, if_neg fun w => (List.mem_cons.mp w).elim (fun e => z e.symm) y]
        rfl
/-- a board of two orders -/
structure Two (a b : O) (A B : List Int) (js : Sg) : Prop where
  nd : (js.map (·.1)).Nodup
  ks : ∀ p ∈ js, p.1 = a ∨ p.1 = b
  hA : housesJ js a = A
  hB : housesJ js b = B
theorem Two.nil (a b : O) : Two a b [] [] [] := ⟨.nil, fun p h => (by cases h), rfl, rfl⟩
theorem Two.len {a b : O} {A B : List Int} {js : Sg} (T : Two a b A B js) : js.length ≤ 2 := by
  have := sub_len (A := js.map (·.1)) (B := [a, b]) T.nd fun x hx => by
    obtain ⟨p, hp, rfl⟩ := List.mem_map.mp hx
    rcases T.ks p hp with e | e <;> simp [e]
  rwa [List.length_map] at this
theorem Two.keys {a b o : O} {h : Int} {js : Sg} (nd : (js.map (·.1)).Nodup) (ks : ∀ p ∈ js, p.1 = a ∨ p.1 = b) (ho : o = a ∨ o = b) : ((signJ js o h).map (·.1)).Nodup ∧ ∀ p ∈ signJ js o h, p.1 = a ∨ p.1 = b := by
  have kk : ∀ x, x ∈ (signJ js o h).map (·.1) → x ∈ js.map (·.1) ∨ x = o := fun x hx => by
    rw [sign_keys] at hx
    by_cases z : o ∈ js.map (·.1)
    · rw [if_pos z] at hx; exact .inl hx
    · rw [if_neg z] at hx
      exact (List.mem_append.mp hx).imp id fun y => List.mem_singleton.mp y
  constructor
  · rw [sign_keys]
    by_cases z : o ∈ js.map (·.1)
    · rw [if_pos z]; exact nd
    · rw [if_neg z, List.nodup_append]
      refine ⟨nd, by simp, fun a ha b hb c => ?_⟩
      rw [List.mem_singleton.mp hb] at c
      exact z (c ▸ ha)
  · intro p hp
    rcases kk p.1 (List.mem_map_of_mem hp) with y | y
    · obtain ⟨q, hq, e⟩ := List.mem_map.mp y
      exact e ▸ ks q hq
    · exact y ▸ ho
theorem Two.putA {a b : O} {A B : List Int} {js : Sg} {h : Int} (T : Two a b A B js) (ne : a ≠ b) (hh : h ∉ A) : Two a b (A ++ [h]) B (putJ js a h) := by
  unfold putJ
  rw [if_neg (by rw [T.hA]; exact hh)]
  obtain ⟨k1, k2⟩ := Two.keys (h := h) T.nd T.ks (.inl rfl)
  refine ⟨k1, k2, ?_, ?_⟩
  · rw [houses_sign, if_pos rfl, T.hA]
  · rw [houses_sign, if_neg (Ne.symm ne), T.hB]
theorem Two.putB {a b : O} {A B : List Int} {js : Sg} {h : Int} (T : Two a b A B js) (ne : a ≠ b) (hh : h ∉ B) : Two a b A (B ++ [h]) (putJ js b h) := by
  unfold putJ
  rw [if_neg (by rw [T.hB]; exact hh)]
  obtain ⟨k1, k2⟩ := Two.keys (h := h) T.nd T.ks (.inr rfl)
  refine ⟨k1, k2, ?_, ?_⟩
  · rw [houses_sign, if_neg ne, T.hA]
  · rw [houses_sign, if_pos rfl, T.hB]
theorem Two.free {a b : O} {A B : List Int} {js : Sg} {h : Int} (T : Two a b A B js) (nA : h ∉ A) (nB : h ∉ B) (o : O) : (signedO js h).any (clashB o) = false := by
  have e : signedO js h = [] := by
    refine List.eq_nil_iff_forall_not_mem.mpr fun u hu => ?_
    have hm := (mem_signed T.nd).mp hu
    unfold signedO at hu
    obtain ⟨p, hp, rfl⟩ := List.mem_map.mp hu
    rcases T.ks p (List.mem_filter.mp hp).1 with z | z
    · rw [z, T.hA] at hm; exact nA hm
    · rw [z, T.hB] at hm; exact nB hm
  rw [e]
  rfl
/-- how many are ready -/
theorem Two.ready {a b : O} {A B : List Int} {js : Sg} {en : Int} {ts : List (List Int)} (T : Two a b A B js) (ne : a ≠ b) (e1 : 1 ≤ en) (pt : ts.Perm (carriedI (isO js) en)) : ts.length < 2 ↔ ¬ (en ≤ (A.length : Int) ∧ en ≤ (B.length : Int)) := by
  have ndc : (carriedI (isO js) en).Nodup := by
    have : ((isO js).map (·.1)).Nodup := by
      have e : (isO js).map (·.1) = (js.map (·.1)).map ordI := by
        unfold isO
        rw [List.map_map, List.map_map]
        rfl
      rw [e]
      exact map_nodup ordI T.nd fun _ _ _ _ z => ordI_inj z
    exact this.sublist (List.filter_sublist.map _)
  have inn : ∀ {o : O}, en ≤ ((housesJ js o).length : Int) → ordI o ∈ carriedI (isO js) en := fun {o} l => by
    have : o ∈ js.map (·.1) := Classical.byContradiction fun z => by
      have hz : housesJ js o = [] := by
        have : ∀ {js : Sg}, o ∉ js.map (·.1) → housesJ js o = [] := fun {js} => by
          induction js with
          | nil => intro _; rfl
          | cons p r ih =>
            intro h
            rw [List.map_cons, List.mem_cons] at h
            rw [housesJ, if_neg fun y => h (.inl y.symm)]
            exact ih fun y => h (.inr y)
        exact this z
      rw [hz] at l
      simp at l
      omega
    obtain ⟨p, hp, rfl⟩ := List.mem_map.mp this
    exact mem_carried.mpr ⟨p, hp, by rw [← housesJ_at T.nd hp]; exact l, rfl⟩
  have out : ∀ {t : List Int}, t ∈ carriedI (isO js) en → (t = ordI a ∧ en ≤ (A.length : Int)) ∨ (t = ordI b ∧ en ≤ (B.length : Int)) := fun {t} ht => by
    obtain ⟨p, hp, l, rfl⟩ := mem_carried.mp ht
    rw [← housesJ_at T.nd hp] at l
    rcases T.ks p hp with z | z
    · rw [z, T.hA] at l; exact .inl ⟨by rw [z], l⟩
    · rw [z, T.hB] at l; exact .inr ⟨by rw [z], l⟩
  rw [pt.length_eq]
  constructor
  · rintro l ⟨lA, lB⟩
    have := sub_len (A := [ordI a, ordI b]) (B := carriedI (isO js) en) (by simp; exact fun z => ne (ordI_inj z)) fun x hx => by
      rcases List.mem_cons.mp hx with rfl | y
      · exact inn (by rw [T.hA]; exact lA)
      · rw [List.mem_singleton.mp y]; exact inn (by rw [T.hB]; exact lB)
    simp at this
    omega
  · intro no
    by_cases lA : en ≤ (A.length : Int)
    · have := sub_len (B := [ordI a]) ndc fun x hx => by
        rcases out hx with z | z
        · simp [z.1]
        · exact absurd ⟨lA, z.2⟩ no
      simp at this
      omega
    · have := sub_len (B := [ordI b]) ndc fun x hx => by
        rcases out hx with z | z
        · exact absurd z.2 lA
        · simp [z.1]
      simp at this
      omega
/-- the law's counts -/
theorem sure_iff {ks : List Int} {n : Nat} {en sh : Int} (nk : ks.Nodup) (hk : ∀ k ∈ ks, 0 ≤ k ∧ k < (n : Int)) (e1 : 1 ≤ en) (e2 : en ≤ n) (esh : sh = if en - (ks.length : Int) > 0 then en - (ks.length : Int) else 0) :
    decide (0 < en - (ks.length : Int) ∧ (n : Int) - ks.length < 2 * (en - ks.length)) = decide (¬ (en ≤ (((hon ks (rowI n)).take sh.toNat ++ ks).length : Int) ∧ en ≤ (((hon ks (rowI n)).drop sh.toNat ++ ks).length : Int))) := by
  have l := hon_row nk hk
  rw [List.length_append, List.length_append, List.length_take, List.length_drop, decide_eq_decide]
  have : sh = if en - (ks.length : Int) > 0 then en - (ks.length : Int) else 0 := esh
  split at this <;> omega
def sp_law (K : PySem.W.Frag) : Sp := fun vs H Q _ => ∃ (a : Addr) (ns : List Int), vs = [.ref a] ∧ SqL K H a (ns.map V.int) ∧ ns.length ≤ 63 ∧ ∀ H', Q (.bl true) H'
theorem hasDs_tups {K : PySem.W.Frag} {H : Hp} : ∀ {vs : List V} {ts : List (List Int)}, TupsAt K H vs ts → HasDs K H (ts.map fun t => .tup (t.map Dt.int)) vs
  | _, _, .nil => by rw [List.map_nil, HasDs]
  | _, _, .cons ⟨a, e, h⟩ r => by
    rw [List.map_cons, HasDs]
    subst e
    exact ⟨_, _, rfl, hasD_tupI h, hasDs_tups r⟩
theorem hasD_tups {K : PySem.W.Frag} {H : Hp} {a : Addr} {vs : List V} {ts : List (List Int)} (h : H a = some (.lst vs)) (r : TupsAt K H vs ts) : HasD K H (.lst (ts.map fun t => .tup (t.map Dt.int))) (.ref a) := by
  rw [HasD]
  exact ⟨a, vs, rfl, SqL.of h, hasDs_tups r⟩
theorem eqDs_tups : ∀ ts : List (List Int), eqDs (ts.map fun t => .tup (t.map Dt.int)) (ts.map fun t => .tup (t.map Dt.int)) = true
  | [] => rfl
  | t :: ts => by rw [List.map_cons, eqDs, eqD_tupI, eqDs_tups ts, decide_eq_true rfl]; rfl
theorem depDs_tups : ∀ ts : List (List Int), depDs (ts.map fun t => .tup (t.map Dt.int)) ≤ 1
  | [] => by rw [List.map_nil, depDs]; decide
  | t :: ts => by
    rw [List.map_cons, depDs, depD, depDs_ints]
    have := depDs_tups ts
    omega
theorem iteJ {c : Bool} {X Y : VK → Prop} {Q : VK} (F : VK) (hx : c = true → ∀ Q' : VK, (∀ v H, F v H → Q' v H) → X Q') (hy : c = false → ∀ Q' : VK, (∀ v H, F v H → Q' v H) → Y Q') (hq : ∀ v H, F v H → Q v H) : if c = true then X Q else Y Q := by
  cases c with
  | true => exact iteT (hx rfl Q hq)
  | false => exact iteF (hy rfl Q hq)
theorem seqJ {a b : TS} {D : Ends} {σ : St} {H : Hp} (F : St → Hp → Prop) (h1 : ∀ N : St → Hp → Prop, (∀ σ' H', F σ' H' → N σ' H') → a { D with nx := N } σ H) (h2 : ∀ σ' H', F σ' H' → b D σ' H') : tSeq a b D σ H := h1 _ h2
theorem ifJ {c : TT} {a b : TS} {D : Ends} {σ : St} {H : Hp} (F : Bool → Hp → Prop) (h1 : ∀ Q' : Bool → Hp → Prop, (∀ x H', F x H' → Q' x H') → c σ H Q') (h2 : ∀ H', F true H' → a D σ H') (h3 : ∀ H', F false H' → b D σ H') : tIfS c a b D σ H := h1 _ fun x H' f => by
  cases x with
  | true => exact iteT (h2 _ f)
  | false => exact iteF (h3 _ f)
theorem thaw_same {H H' : Hp} {L r : Addr} {o : Obj} {kvl : List (List Key × V)} {ys : List V} (hL : H L = some (.dT kvl)) (sm : Same (upd H L (.frz o (.dT kvl))) H') (hr : H' r = none) : r ≠ L ∧ H r = none ∧ Same H (upd (upd H' r (.lst ys)) L (.dT kvl)) ∧ (∀ c u, H' c = some u → (∀ o u', u ≠ .frz o u') → upd (upd H' r (.lst ys)) L (.dT kvl) c = some u) := by
  have hL' := sm _ _ (upd_same (H := H) (a := L) (o := .frz o (.dT kvl)))
  have rL : r ≠ L := (ne_of_none hL' hr).symm
  have h0 : H r = none := by
    cases e : H r with
    | none => rfl
    | some u =>
      have := sm r u (by rw [upd_ne rL]; exact e)
      rw [hr] at this
      cases this
  refine ⟨rL, h0, fun c u hc => ?_, fun c u hc hu => ?_⟩
  · by_cases z : c = L
    · subst z
      rw [upd_same, ← hc, hL]
    · rw [upd_ne z, upd_ne (ne_of_none hc h0)]
      exact sm _ _ (by rw [upd_ne z]; exact hc)
  · rw [upd_ne (ne_of hc hL' (hu _ _)), upd_ne (ne_of_none hc hr)]
    exact hc
/-- the law's goals -/
def goalsI (pu : Int) : List Int := (rowI 8).filter fun k => decide (k ≠ pu)
theorem goals_two : ∀ pu ∈ rowI 8, ∃ g0 g1 r, goalsI pu = g0 :: g1 :: r ∧ g0 ≠ g1 ∧ r.length = 5 := by
  intro pu hp
  have : ∀ pu ∈ rowI 8, (goalsI pu).length = 7 ∧ (goalsI pu).getD 0 0 ≠ (goalsI pu).getD 1 0 := by decide
  obtain ⟨h1, h2⟩ := this pu hp
  match e : goalsI pu, h1, h2 with
  | g0 :: g1 :: r, h1, h2 => exact ⟨g0, g1, r, rfl, h2, by simpa using h1⟩
theorem goals_mem {pu g : Int} (h : g ∈ goalsI pu) : 0 ≤ g ∧ g ≤ 7 ∧ g ≠ pu := by
  obtain ⟨h1, h2⟩ := List.mem_filter.mp h
  have := mem_rowI.mp h1
  have h3 := of_decide_eq_true h2
  omega
theorem rowI_snoc (n : Nat) : rowI (n + 1) = rowI n ++ [(n : Int)] := by
  unfold rowI
  rw [List.range_succ, List.map_append]
  rfl
/-- what an owner signed of that number besides an order -/
def mineL (ls : Sg) (h : Int) (o : O) : List O := (ls.filter fun p => decide (h ∈ p.2 ∧ p.1.n = o.n ∧ p.1 ≠ o)).map (·.1)
theorem mineL_snoc {ls : Sg} {h : Int} {o : O} {i : Nat} {p : O × List Int} (e : ls[i]? = some p) : mineL (ls.take (i + 1)) h o = mineL (ls.take i) h o ++ (if h ∈ p.2 ∧ p.1.n = o.n ∧ p.1 ≠ o then [p.1] else []) := by
  unfold mineL
  rw [take_snoc e, List.filter_append, List.map_append]
  by_cases z : h ∈ p.2 ∧ p.1.n = o.n ∧ p.1 ≠ o
  · rw [if_pos z, List.filter_cons, decide_eq_true z]
    rfl
  · rw [if_neg z, List.filter_cons, decide_eq_false z]
    rfl
theorem tupsH_at {H : Hp} {K : PySem.W.Frag} {vs : List V} {ts : List (List Int)} (h : TupsH H vs ts) : TupsAt K H vs ts := Paired.mapP h fun _ _ ⟨a, e, q⟩ => ⟨a, e, SqT.of q⟩
theorem dep_tups (ts : List (List Int)) : depD (.lst (ts.map fun t => .tup (t.map Dt.int))) ≤ 60 := by
  rw [depD]
  have := depDs_tups ts
  omega
theorem mine_none {ls : Sg} {h pu : Int} {o : O} (mi : ∀ p ∈ ls, p.1.p = pu) (op : o.p = pu) (e : mineL ls h o = []) : (signedO ls h).any (clashB o) = false := by
  rw [List.any_eq_false]
  intro u hu c
  unfold clashB at c
  rw [decide_eq_true_iff] at c
  unfold signedO at hu
  obtain ⟨p, hp, rfl⟩ := List.mem_map.mp hu
  obtain ⟨p1, p2⟩ := List.mem_filter.mp hp
  have : p.1 ∈ mineL ls h o := List.mem_map.mpr ⟨p, List.mem_filter.mpr ⟨p1, decide_eq_true ⟨of_decide_eq_true p2, c.2.2.symm, fun z => c.1 z.symm⟩⟩, rfl⟩
  rw [e] at this
  cases this
theorem rise6 {ns : List Int} (up : ns.Pairwise (· < ·)) (h : ∀ z ∈ ns, 0 ≤ z ∧ z < 6) : ns.length ≤ 6 := by
  have := sub_len (B := rowI 6) (up_nodup up) fun z hz => mem_rowI.mpr (h z hz)
  rwa [len_rowI] at this
theorem le_lt {ns : List Int} (h : ns.Pairwise (· ≤ ·)) (nd : ns.Nodup) : ns.Pairwise (· < ·) := (h.and nd).imp fun ⟨a, b⟩ => by omega
/-- the heap of the second half -/
structure Fw (t : Ad) (H : Hp) (j dj : Addr) (pu ow en : Int) (C B : Addr) (ks : List Int) (dB S : Addr) (kvs : List (List Key × V)) (js : Sg) (Ho : Addr) (hs : List Int) (G : Addr) (gs : List Int) (N : Addr) : Prop where
  J : JointAt t H j dj pu ow en C B ks dB S kvs (isO js)
  hHo : H Ho = some (.lst (hs.map V.int))
  hG : H G = some (.lst (gs.map V.int))
  hN : H N = some (.lst (ks.map V.int))
  nHo : NotIn kvs Ho
  nG : NotIn kvs G
  nN : NotIn kvs N
section
variable {H H' : Hp} {j dj : Addr} {pu ow en : Int} {C B : Addr} {ks : List Int} {dB S : Addr} {kvs kvs' : List (List Key × V)} {js js' : Sg} {Ho : Addr} {hs : List Int} {G : Addr} {gs : List Int} {N : Addr}
theorem Fw.same (F : Fw t H j dj pu ow en C B ks dB S kvs js Ho hs G gs N) (s : Same H H') : Fw t H' j dj pu ow en C B ks dB S kvs js Ho hs G gs N :=
  ⟨F.J.same s, s _ _ F.hHo, s _ _ F.hG, s _ _ F.hN, F.nHo, F.nG, F.nN⟩
theorem Fw.sign (F : Fw t H j dj pu ow en C B ks dB S kvs js Ho hs G gs N) (J : JointAt t H' j dj pu ow en C B ks dB S kvs' (isO js')) (kp : ∀ c u, H c = some u → c ≠ S → NotIn kvs c → H' c = some u) (ni : ∀ c u, H c = some u → NotIn kvs c → NotIn kvs' c) :
    Fw t H' j dj pu ow en C B ks dB S kvs' js' Ho hs G gs N := by
  have nS : ∀ {b : Addr} {u : HO}, H b = some u → (∀ ks, u ≠ .dT ks) → b ≠ S := fun hb hu => ne_of hb F.J.bd.sg (hu _)
  exact ⟨J, kp _ _ F.hHo (nS F.hHo fun _ z => by cases z) F.nHo, kp _ _ F.hG (nS F.hG fun _ z => by cases z) F.nG, kp _ _ F.hN (nS F.hN fun _ z => by cases z) F.nN, ni _ _ F.hHo F.nHo, ni _ _ F.hG F.nG, ni _ _ F.hN F.nN⟩
end
set_option maxHeartbeats 0 in
theorem ok_law (T : Txt K mg t) : FnOk P w K mg base CX0 12 t.f_law t.d_law ["_law_script"] (sp_law K) := by
  refine (T.F_law.ok (k := 11) sc_law (fun vs H Q E h => ?_) (fun cdv A outer s H vs Q E hr h => ?_))
  · obtain ⟨a, ns, rfl, _⟩ := h
    rfl
  · obtain ⟨a, ns, rfl, ha, l63, k⟩ := h
    refine ⟨_, (@pss_cons _ _ _ _ _ (ps_set (i := 1) sc_law.nd rfl (Or.inl rfl) (pe_call (ok__law_town T) (hr.mono (by decide)) rfl T.m__law_town T.F__law_town.kp T.b__law_town .nil pass0 (pa_more (pv 0) pa_nil)))
      (@pss_cons _ _ _ _ _ (ps_set (i := 2) sc_law.nd rfl (Or.inl rfl) (pe_op op_add pe_int (pe_call (ok__law_draw T) (hr.mono (by decide)) rfl T.m__law_draw T.F__law_draw.kp T.b__law_draw .nil pass0 (@pa_2 _ _ _ _ _ (pv 1) pe_int rfl rfl))))
      (@pss_cons _ _ _ _ _ (ps_set (i := 3) sc_law.nd rfl (Or.inr rfl) (pe_op op_add pe_int (pe_call (ok__law_draw T) (hr.mono (by decide)) rfl T.m__law_draw T.F__law_draw.kp T.b__law_draw .nil pass0 (@pa_2 _ _ _ _ _ (pv 1) (pv 2) rfl rfl))))
      (@pss_cons _ _ _ _ _ (ps_set (i := 4) sc_law.nd rfl (Or.inr rfl) (pe_call (ok__law_some T) (hr.mono (by decide)) rfl T.m__law_some T.F__law_some.kp T.b__law_some .nil pass0 (@pa_3 _ _ _ _ _ _ _ (pv 1) (pv 2) (pv 2) rfl rfl rfl)))
      (@pss_cons _ _ _ _ _ (ps_set (i := 5) sc_law.nd rfl (Or.inr rfl) (pe_call (ok__law_draw T) (hr.mono (by decide)) rfl T.m__law_draw T.F__law_draw.kp T.b__law_draw .nil pass0 (@pa_2 _ _ _ _ _ (pv 1) pe_int rfl rfl)))
      (@pss_cons _ _ _ _ _ (ps_set (i := 6) sc_law.nd rfl (Or.inl rfl) (pe_ifExp (pt_cmpR (op_neD hr.units) (pv 4) (@pe_lst _ _ _ _ pa_nil) (nomark _)) (pe_makeK T.mk_Joint (ok_Joint___init__ T) (hr.mono (by decide)) rfl T.m_Joint T.bk0_Joint___init__ pass0 (pa_more (pv 5) pa_nil) (pk_cons (pv 2) (pk_cons (pv 3) (pk_cons (pv 4) pk_nil)))) (pe_makeK T.mk_Joint (ok_Joint___init__ T) (hr.mono (by decide)) rfl T.m_Joint T.bk1_Joint___init__.choose_spec.1 pass0 (pa_more (pv 5) pa_nil) (pk_cons (pv 2) (pk_cons (pv 3) pk_nil)))))
      (@pss_cons _ _ _ _ _ (ps_lcomp (i := 7) sc_law.nd rfl rfl (N' := ["_law_k", "_law_purse"]) (ix := [none, some 5]) (compOk_is (by kernel_rfl)) rfl (pi_range1 rfl T.n_range (pa_more pe_int pa_nil)) (fun _ _ _ _ => (pg_name (i := 0) nd_10 rfl (Or.inl rfl) (.inr rfl))) (fun _ _ _ _ => (pif_one (pt_cmpR op_ne (pv 0) (pv 1) (nomark _)))) (fun _ _ _ _ => (pv 0)))
      (@pss_cons _ _ _ _ _ (ps_set (i := 8) sc_law.nd rfl (Or.inr rfl) pe_dnewT)
      (@pss_cons _ _ _ _ _ (ps_for PassesOwn.never rfl (pi_range1 rfl T.n_range (pa_more pe_int pa_nil)) (pg_name (i := 9) sc_law.nd rfl (Or.inl rfl)) (@pss_cons _ _ _ _ _ (ps_set (i := 10) sc_law.nd rfl (Or.inr rfl) (pe_call (ok__law_draw T) (hr.mono (by decide)) rfl T.m__law_draw T.F__law_draw.kp T.b__law_draw .nil pass0 (@pa_2 _ _ _ _ _ (pv 1) (pv 2) rfl rfl)))
      (@pss_cons _ _ _ _ _ (@ps_set _ _ 11 _ _ _ _ sc_law.nd rfl (Or.inr rfl) (@pe_tup _ _ _ _ _ (@pa_4 _ _ _ _ _ _ _ _ _ (pv 5) (pe_call (ok__law_draw T) (hr.mono (by decide)) rfl T.m__law_draw T.F__law_draw.kp T.b__law_draw .nil pass0 (@pa_2 _ _ _ _ _ (pv 1) pe_int rfl rfl)) (pe_call (ok__law_pick T) (hr.mono (by decide)) rfl T.m__law_pick T.F__law_pick.kp T.b__law_pick .nil pass0 (@pa_2 _ _ _ _ _ (pv 1) (pe_slice sl_list (pv 7) po_none (po_some pe_int)) rfl rfl)) pe_int rfl rfl rfl rfl)) (by rfl) (by first | exact .inl rfl | exact .inr rfl))
      (@pss_cons _ _ _ _ _ (ps_thaw (ps_lcomp (i := 12) sc_law.nd rfl rfl (N' := ["_law_one", "_law_owner", "_law_order", "_law_signed"]) (ix := [none, some 10, some 11, some 8]) (compOk_is (by kernel_rfl)) rfl (pi_dT (pv 8)) (fun _ _ _ _ => (pg_name (i := 0) nd_9 rfl (Or.inl rfl) (.inr rfl))) (fun _ _ _ _ => (pif_one (PW.pt (pw_and (pt_cmpR (op_in_seqK (K := K) rfl) (pv 1) (pe_dget (hu_of hr) (pv 3) (pv 0) (fun _ _ => rfl)) (by with_unfolding_all rfl)) (pw_and (pt_cmpR op_eq (pe_ix (ix_tupK (K := K) rfl) (pv 0) pe_int (fun _ _ => rfl)) (pe_ix (ix_tupK (K := K) rfl) (pv 2) pe_int (fun _ _ => rfl)) (nomark _)) (pw_and1 (pt_cmpR (op_neDK (K := K) rfl hr.units) (pv 0) (pv 2) (nomark _)))))))) (fun _ _ _ _ => (pv 0))))
      (@pss_cons _ _ _ _ _ (ps_if (PW.pt (pw_or (pt_cmpR op_in_seq (pv 10) (pv 4) (by with_unfolding_all rfl)) (pw_or1 (pt_cmpR (op_eqD hr.units) (pv 12) (@pe_lst _ _ _ _ pa_nil) (nomark _))))) (@pss_cons _ _ _ _ _ (ps_dput (hu_of hr) (pv 8) (pv 11) (pe_callB (call_sortedS rfl) rfl T.n_sorted boot_sorted (pa_more (pe_callTy (call_setI rfl) rfl T.n_set boot_set (pa_more (pe_op op_cat (pe_dget2 (hu_of hr) (pv 8) (pv 11) (@pe_lst _ _ _ _ pa_nil) ⟨rfl, rfl, rfl, rfl⟩) (@pe_lst _ _ _ _ (pa_more (pv 10) pa_nil))) pa_nil)) pa_nil)) rfl)
      (@pss_one _ _ _ (ps_if (PW.pt (pw_or (pt_not (pt_val (pe_call (ok__law_is T) (hr.mono (by decide)) rfl T.m__law_is T.F__law_is.kp T.b__law_is .nil pass0 (@pa_2 _ _ _ _ _ (pe_meth (pv 6) T.cl_Joint T.mt_Joint_sign (ok_Joint_sign T) (hr.mono (by decide)) T.b_Joint_sign .nil pass0 (@pa_2 _ _ _ _ _ (pv 10) (pv 11) rfl rfl)) (pe_cmpR op_ge (pe_callB call_len_seq rfl T.n_len boot_len (pa_more (pe_dget (hu_of hr) (pv 8) (pv 11) (fun _ _ => rfl)) pa_nil)) (pv 3) (nomark _)) rfl rfl)))) (pw_or1 (pt_cmpR (op_neD hr.units) (pe_meth (pv 6) T.cl_Joint T.mt_Joint_signed (ok_Joint_signed T) (hr.mono (by decide)) T.b_Joint_signed .nil pass0 (pa_more (pv 11) pa_nil)) (pe_dget (hu_of hr) (pv 8) (pv 11) (fun _ _ => rfl)) (nomark _))))) (@pss_one _ _ _ (ps_ret pe_bl)) pss_nil))) pss_nil)
      (@pss_cons _ _ _ _ _ (ps_set (i := 13) sc_law.nd rfl (Or.inl rfl) (pe_callB call_sortedTX rfl T.n_sorted boot_sorted (pa_more (pe_thaw (pe_lcomp (N' := ["_law_one", "_law_least", "_law_signed"]) (ix := [none, some 3, some 8]) (compOk_is (by kernel_rfl)) rfl (pi_dT (pv 8)) (fun _ _ _ _ => (pg_name (i := 0) nd_8 rfl (Or.inl rfl) (.inr rfl))) (fun _ _ _ _ => (pif_one (pt_cmpR op_ge (pe_callB (call_len_seqK (K := K) rfl) rfl T.n_len boot_len (pa_more (pe_dget (hu_of hr) (pv 2) (pv 0) (fun _ _ => rfl)) pa_nil)) (pv 1) (nomark _)))) (fun _ _ _ _ => (pv 0)))) pa_nil)))
      (@pss_cons _ _ _ _ _ (ps_if (PW.pt (pw_or (pt_cmpR (op_neD hr.units) (pe_meth0 (pv 6) T.cl_Joint T.mt_Joint_ready (ok_Joint_ready T) (hr.mono (by decide)) T.b_Joint_ready .nil pass0) (pv 13) (nomark _)) (pw_or1 (PW.pt (pw_and (pt_cmpR op_isB (pe_meth0 (pv 6) T.cl_Joint T.mt_Joint_is_sure (ok_Joint_is_sure T) (hr.mono (by decide)) T.b_Joint_is_sure .nil pass0) pe_bl (nomark _)) (pw_and1 (pt_cmpR op_ne (pe_callB call_lenS rfl T.n_len boot_len (pa_more (pe_callTy (call_setI rfl) rfl T.n_set boot_set (pa_more (pe_lcomp (N' := ["_law_one"]) (ix := [none]) (compOk_is (by kernel_rfl)) rfl (@pi_list _ _ _ _ (pv 13)) (fun _ _ _ _ => (pg_name (i := 0) nd_7 rfl (Or.inl rfl) (.inr rfl))) (fun _ _ _ _ => pif_nil) (fun _ _ _ _ => (pe_ix (ix_tupK (K := K) rfl) (pv 0) pe_int (fun _ _ => rfl)))) pa_nil)) pa_nil)) (pe_callB call_len_seq rfl T.n_len boot_len (pa_more (pv 13) pa_nil)) (nomark _)))))))) (@pss_one _ _ _ (ps_ret pe_bl)) pss_nil)
      (@pss_cons _ _ _ _ _ (ps_set (i := 14) sc_law.nd rfl (Or.inl rfl) (pe_call (ok__law_faces T) (hr.mono (by decide)) rfl T.m__law_faces T.F__law_faces.kp T.b__law_faces .nil pass0 (pa_more (pv 8) pa_nil)))
      (@pss_one _ _ _ (ps_if (PW.pt (pw_or (pt_cmpR (op_neD hr.units) (pe_meth0 (pv 6) T.cl_Joint T.mt_Joint_two_faced (ok_Joint_two_faced T) (hr.mono (by decide)) T.b_Joint_two_faced .nil pass0) (pv 14) (nomark _)) (pw_or1 (pt_cmpR (op_neD hr.units) (pe_lcomp (N' := ["_law_k", "_law_knaves"]) (ix := [none, some 4]) (compOk_is (by kernel_rfl)) rfl (@pi_list _ _ _ _ (pv 14)) (fun _ _ _ _ => (pg_name (i := 0) nd_6 rfl (Or.inl rfl) (.inr rfl))) (fun _ _ _ _ => (pif_one (pt_cmpR (op_notIn_seqK (K := K) rfl) (pv 0) (pv 1) (by with_unfolding_all rfl)))) (fun _ _ _ _ => (pv 0))) (@pe_lst _ _ _ _ pa_nil) (nomark _))))) (@pss_one _ _ _ (ps_ret pe_bl)) pss_nil))))))))))
      (@pss_cons _ _ _ _ _ (ps_set (i := 15) sc_law.nd rfl (Or.inl rfl) (pe_makeK T.mk_Joint (ok_Joint___init__ T) (hr.mono (by decide)) rfl T.m_Joint T.bk0_Joint___init__ pass0 (pa_more (pv 5) pa_nil) (pk_cons (pv 2) (pk_cons (pv 3) (pk_cons (pv 4) pk_nil)))))
      (@pss_cons _ _ _ _ _ (ps_lcomp (i := 16) sc_law.nd rfl rfl (N' := ["_law_k", "_law_knaves"]) (ix := [none, some 4]) (compOk_is (by kernel_rfl)) rfl (pi_range1 rfl T.n_range (pa_more (pv 2) pa_nil)) (fun _ _ _ _ => (pg_name (i := 0) nd_5 rfl (Or.inl rfl) (.inr rfl))) (fun _ _ _ _ => (pif_one (pt_cmpR (op_notIn_seqK (K := K) rfl) (pv 0) (pv 1) (by with_unfolding_all rfl)))) (fun _ _ _ _ => (pv 0)))
      (@pss_cons _ _ _ _ _ (ps_set (i := 17) sc_law.nd rfl (Or.inl rfl) (pe_callB (call_max2 rfl) rfl T.n_max boot_max (@pa_2 _ _ _ _ _ pe_int (pe_op op_sub (pv 3) (pe_callB call_len_seq rfl T.n_len boot_len (pa_more (pv 4) pa_nil))) rfl rfl)))
      (@pss_cons _ _ _ _ _ (ps_for PassesOwn.never rfl (pi_range1 rfl T.n_range (pa_more (pe_callB call_len_seq rfl T.n_len boot_len (pa_more (pv 16) pa_nil)) pa_nil)) (pg_name (i := 18) sc_law.nd rfl (Or.inl rfl)) (@pss_one _ _ _ (ps_expr (pe_meth (pv 15) T.cl_Joint T.mt_Joint_sign (ok_Joint_sign T) (hr.mono (by decide)) T.b_Joint_sign .nil pass0 (@pa_2 _ _ _ _ _ (pe_ix ix_list (pv 16) (pv 18) (fun _ _ => rfl)) (@pe_tup _ _ _ _ _ (@pa_4 _ _ _ _ _ _ _ _ _ (pv 5) pe_int (pe_ix ix_list (pv 7) (pe_ifExp (pt_cmpR op_lt (pv 18) (pv 17) (nomark _)) pe_int pe_int) (fun _ _ => rfl)) pe_int rfl rfl rfl rfl)) rfl rfl)))))
      (@pss_cons _ _ _ _ _ (ps_for PassesOwn.never rfl (@pi_list _ _ _ _ (pv 4)) (pg_name (i := 18) sc_law.nd rfl (Or.inl rfl)) (@pss_cons _ _ _ _ _ (ps_expr (pe_meth (pv 15) T.cl_Joint T.mt_Joint_sign (ok_Joint_sign T) (hr.mono (by decide)) T.b_Joint_sign .nil pass0 (@pa_2 _ _ _ _ _ (pv 18) (@pe_tup _ _ _ _ _ (@pa_4 _ _ _ _ _ _ _ _ _ (pv 5) pe_int (pe_ix ix_list (pv 7) pe_int (fun _ _ => rfl)) pe_int rfl rfl rfl rfl)) rfl rfl)))
      (@pss_one _ _ _ (ps_expr (pe_meth (pv 15) T.cl_Joint T.mt_Joint_sign (ok_Joint_sign T) (hr.mono (by decide)) T.b_Joint_sign .nil pass0 (@pa_2 _ _ _ _ _ (pv 18) (@pe_tup _ _ _ _ _ (@pa_4 _ _ _ _ _ _ _ _ _ (pv 5) pe_int (pe_ix ix_list (pv 7) pe_int (fun _ _ => rfl)) pe_int rfl rfl rfl rfl)) rfl rfl))))))
      (@pss_one _ _ _ (ps_ret (pe_call (ok__law_is T) (hr.mono (by decide)) rfl T.m__law_is T.F__law_is.kp T.b__law_is .nil pass0 (@pa_2 _ _ _ _ _ (pe_meth0 (pv 15) T.cl_Joint T.mt_Joint_is_sure (ok_Joint_is_sure T) (hr.mono (by decide)) T.b_Joint_is_sure .nil pass0) (pe_cmpR op_lt (pe_callB call_len_seq rfl T.n_len boot_len (pa_more (pe_meth0 (pv 15) T.cl_Joint T.mt_Joint_ready (ok_Joint_ready T) (hr.mono (by decide)) T.b_Joint_ready .nil pass0) pa_nil)) pe_int (nomark _)) rfl rfl)))))))))))))))))), ?_⟩
    refine ⟨_, rfl, a, ns, rfl, ha, fun To R H1 nT nR s1 hT1 => ?_⟩
    refine ⟨_, rfl, To, R, 6, rfl, hT1, by decide, by decide, fun d0 H2 d00 d01 hT2 k2 => ?_⟩
    refine ⟨_, _, rfl, rfl, ?_⟩
    obtain ⟨m, em⟩ : ∃ m : Int, m = 1 + d0 := ⟨_, rfl⟩
    show gName 2 (V.int (1 + d0)) _ _ _
    rw [← em]
    have m1 : 1 ≤ m := by omega
    have m6 : m ≤ 6 := by omega
    refine ⟨_, rfl, _, rfl, To, R, m, rfl, hT2, m1, by omega, fun d1 H3 d10 d11 hT3 k3 => ?_⟩
    refine ⟨_, _, rfl, rfl, ?_⟩
    obtain ⟨en, een⟩ : ∃ en : Int, en = 1 + d1 := ⟨_, rfl⟩
    show gName 3 (V.int (1 + d1)) _ _ _
    rw [← een]
    have en1 : 1 ≤ en := by omega
    have enm : en ≤ m := by omega
    refine ⟨_, rfl, _, rfl, _, rfl, To, R, m, rfl, hT3, by omega, m6, fun N ks H4 nN hT4 k4 hN upk rgk => ?_⟩
    have fN := hT3.fresh nN
    have nk : ks.Nodup := up_nodup upk
    refine ⟨_, rfl, To, R, 8, rfl, hT4, by decide, by decide, fun pu H5 pu0 pu1 hT5 k5 => ?_⟩
    have hN5 := k5 _ _ hN fN.1 fN.2
    -- the joint purse
    refine ⟨_, rfl, (by show 0 ≤ sizeLine; decide), fun e0 he0 => ?_⟩
    have s6 := same_upd (o := .lst []) he0
    have hT6 := hT5.same s6
    have hN6 := s6 _ _ hN5
    refine ⟨.lst (ks.map Dt.int), .lst (([] : List Int).map Dt.int), hasD_listI (SqL.of hN6), hasD_listI (SqL.of upd_same), dep_listI _, _, rfl, ?_⟩
    rw [eqD_listI]
    generalize upd H5 e0 (.lst []) = H6 at s6 hT6 hN6
    have fresh_ins : ∀ {H : Hp} {x dx : Addr}, H x = none → H dx = none → dx ≠ x → ∀ {b : Addr} {u : HO}, H b = some u → b ≠ x ∧ upd (upd H dx (.own x)) x (.ins t.a_Joint dx []) b = some u := fun {H x dx} nx ndx _ {b u} e => ⟨ne_of_none e nx, by rw [upd_ne (ne_of_none e nx), upd_ne (ne_of_none e ndx)]; exact e⟩
    have none_ins : ∀ {H : Hp} {x dx c : Addr}, upd (upd H dx (.own x)) x (.ins t.a_Joint dx []) c = none → H c = none := fun {H x dx c} e => (upd_none' (upd_none' e).2).2
    refine iteJ (fun v H7 => ∃ j dj C B dB S, v = .ref j ∧ H6 C = none ∧ H6 S = none ∧ JointAt t H7 j dj pu m en C B ks dB S [] (isO []) ∧ Same H6 H7) (fun hc Q' hQ => ?_) (fun hc Q' hQ => ?_) ?_
    · refine ⟨_, rfl, _, rfl, _, rfl, _, rfl, fun x dx nx ndx ne => ?_⟩
      refine ⟨x, dx, pu, m, en, N, ks, rfl, upd_same, pu0, by omega, m1, m6, en1, enm, .inl (fresh_ins nx ndx ne hN6).2, upk, rgk, fun C B dB S H7 nC nB nS J kp => ⟨rfl, hQ _ _ ⟨x, dx, C, B, dB, S, rfl, none_ins nC, none_ins nS, J, fun b u e => ?_⟩⟩⟩
      obtain ⟨z1, z2⟩ := fresh_ins nx ndx ne e
      exact kp _ _ z2 z1
    · have ek : ks = [] := by
        have := hc
        simpa using this
      subst ek
      obtain ⟨oo, nn, q1, q2, q3⟩ := T.bk1_Joint___init__.choose_spec.2
      refine ⟨_, rfl, _, rfl, _, rfl, fun x dx nx ndx ne => ?_⟩
      refine ⟨x, dx, pu, m, en, _, [], rfl, upd_same, pu0, by omega, m1, m6, en1, enm, .inr ⟨rfl, .inr ⟨oo, #[], nn, q1, q2, q3, by decide, .nil⟩⟩, .nil, fun k hk => (by cases hk), fun C B dB S H7 nC nB nS J kp => ⟨rfl, hQ _ _ ⟨x, dx, C, B, dB, S, rfl, none_ins nC, none_ins nS, J, fun b u e => ?_⟩⟩⟩
      obtain ⟨z1, z2⟩ := fresh_ins nx ndx ne e
      exact kp _ _ z2 z1
    rintro v H7 ⟨j, dj, C, B, dB, S, rfl, nC, nS, J7, s7⟩
    have hT7 := hT6.same s7
    have hN7 := s7 _ _ hN6
    have CT := hT6.fresh nC
    -- the goals
    refine ⟨8, rfl, by decide, by decide, lc_range (lo := 0) (n := 8) (fun i ys σ H' => ∃ v, σ = [v, some (.int pu)] ∧ H' = H7 ∧ ys = ((rowI i).filter fun k => decide (k ≠ pu)).map V.int) ⟨none, rfl, rfl, rfl⟩ ?_ ?_ ?_⟩
    · rintro i ys σ H' hi ⟨v, rfl, rfl, rfl⟩
      refine len1000 ?_
      rw [List.length_map]
      refine Nat.le_trans (List.length_filter_le _ _) ?_
      rw [len_rowI]
      omega
    · rintro i ys σ H' hi ⟨v, rfl, rfl, rfl⟩
      refine ⟨_, rfl, _, rfl, rfl, _, rfl, ?_⟩
      have e0 : (0 : Int) + (i : Int) = i := by omega
      rw [e0]
      refine ite2 (fun z => ?_) (fun z => ?_)
      · have ne : (i : Int) ≠ pu := fun y => by rw [y] at z; simp at z
        refine ⟨_, rfl, _, rfl, rfl, ?_⟩
        rw [rowI_snoc, List.filter_append, List.map_append]
        simp [ne]
      · have ne : (i : Int) = pu := Classical.byContradiction fun y => z (by simp [y])
        refine ⟨_, rfl, rfl, ?_⟩
        rw [rowI_snoc, List.filter_append, List.map_append]
        simp [ne]
    rintro ys σ H' ⟨v, rfl, rfl, rfl⟩ G nG
    have fG := hT7.fresh nG
    obtain ⟨g0, g1, gr, eg, g01, lgr⟩ := goals_two pu (mem_rowI.mpr ⟨pu0, pu1⟩)
    have gm : ∀ g ∈ g0 :: g1 :: gr, 0 ≤ g ∧ g ≤ 7 ∧ g ≠ pu := fun g hg => goals_mem (pu := pu) (by rw [eg]; exact hg)
    have eg' : (rowI 8).filter (fun k => decide (k ≠ pu)) = g0 :: g1 :: gr := eg
    rw [eg']
    have s8 := same_upd (o := .lst ((g0 :: g1 :: gr).map V.int)) nG
    have hG8 : upd H' G (.lst ((g0 :: g1 :: gr).map V.int)) G = some (.lst ((g0 :: g1 :: gr).map V.int)) := upd_same
    have hT8 := hT7.same s8
    have hN8 := s8 _ _ hN7
    have J8 := J7.same s8
    have hS8 := J8.bd.sg
    generalize upd H' G (.lst ((g0 :: g1 :: gr).map V.int)) = H8 at s8 hG8 hT8 hN8 J8 hS8
    refine fun L nL => ?_
    have s9 := same_upd (o := .dT []) nL
    have W9 : Lw t (upd H8 L (.dT [])) To R j dj pu m en C B ks dB S [] [] L [] [] G (g0 :: g1 :: gr) N :=
      ⟨hT8.same s9, J8.same s9, CT, upd_same, (ne_of_none hS8 nL).symm, .nil, ⟨fun kv h => (by cases h), fun kv h => (by cases h)⟩, fun kv h => (by cases h), s9 _ _ hG8, fG, s9 _ _ hN8, fN, fun kv h => (by cases h), fun kv h => (by cases h), fun kv h => (by cases h), fun kv h => (by cases h)⟩
    have nLH : H L = none := by
      have a1 := s7.free (s8.free nL)
      have a2 := s6.free a1
      cases e : H L with
      | none => rfl
      | some u =>
        exfalso
        have b1 := s1 _ _ e
        have n1 : L ≠ To := fun z => by rw [z, nT] at e; cases e
        have n2 : L ≠ R := fun z => by rw [z, nR] at e; cases e
        have b5 := k5 _ _ (k4 _ _ (k3 _ _ (k2 _ _ b1 n1 n2) n1 n2) n1 n2) n1 n2
        rw [a2] at b5
        cases b5
    generalize upd H8 L (.dT []) = H9 at s9 W9
    refine ⟨24, rfl, by decide, by decide, for_range (lo := 0) (n := 24) (fun i σ H' => ∃ v9 v10 v11 v12 v13 v14 kvs js kvl ls, σ = [some (.ref a), some (.ref To), some (.int m), some (.int en), some (.ref N), some (.int pu), some (.ref j), some (.ref G), some (.ref L), v9, v10, v11, v12, v13, v14, none, none, none, none] ∧
        Lw t H' To R j dj pu m en C B ks dB S kvs js L kvl ls G (g0 :: g1 :: gr) N ∧ Paired Ak js ls ∧ MI pu m ks ls ∧ ls.length ≤ i) ⟨none, none, none, none, none, none, [], [], [], [], rfl, W9, .nil, MI.nil _ _ _, Nat.zero_le _⟩ ?_ ?_⟩
    · rintro i σ H' hi ⟨v9, v10, v11, v12, v13, v14, kvs, js, kvl, ls, rfl, W, ak, mi, li⟩
      have len := sg_len W.hl
      have lenJ : kvs.length = js.length := sg_len W.J.bd.hs
      have lenA : js.length = ls.length := Paired.length ak
      refine ⟨_, rfl, _, rfl, To, R, m, rfl, W.tn, m1, by omega, fun ow Ha ow0 ow1 hTa ka => ?_⟩
      have Wa := W.draw ka hTa
      clear W hTa ka
      refine ⟨_, rfl, _, rfl, To, R, 2, rfl, Wa.tn, by decide, by decide, fun nn Hb nn0 nn1 hTb kb => ?_⟩
      have Wb := Wa.draw kb hTb
      clear Wa hTb kb
      refine ⟨_, rfl, _, rfl, _, rfl, G, _, rfl, SqL.of Wb.hG, fun G2 nG2 => ?_⟩
      have cut : cutV ((g0 :: g1 :: gr).map V.int) none (some 2) = [.int g0, .int g1] := by
        simp [cutV, HT.sIx, lgr]
      rw [cut]
      have fG2 := Wb.tn.fresh nG2
      have sb := same_upd (o := .lst [.int g0, .int g1]) nG2
      have Wb2 := Wb.same sb
      refine ⟨To, R, G2, [.int g0, .int g1], rfl, Wb2.tn, upd_same, fG2.1, fG2.2, (by decide : 0 < 2), (by decide : 2 ≤ 1000), fun ix x Hc hx hTc kc => ?_⟩
      have Wc := Wb2.draw kc hTc
      clear Wb sb Wb2 hTc kc nG2 fG2
      obtain ⟨g, rfl, hg⟩ : ∃ g, x = .int g ∧ g ∈ g0 :: g1 :: gr := by
        have hm := List.mem_of_getElem? hx
        rcases List.mem_cons.mp hm with z | z
        · exact ⟨g0, z, by simp⟩
        · exact ⟨g1, List.mem_singleton.mp z, by simp⟩
      obtain ⟨gA, gB, gC⟩ := gm g hg
      refine ⟨(by show 4 ≤ sizeLine; decide), fun b nb => ?_⟩
      obtain ⟨o, eo⟩ : ∃ o : O, o = ⟨pu, nn, g, 5⟩ := ⟨_, rfl⟩
      have ho : isOrd 8 o = true := by
        rw [eo]
        refine isOrd_iff.mpr ⟨pu0, ?_, gA, ?_, fun z => gC z.symm, nn0, ?_, ?_, ?_⟩
        · show pu ≤ 8 - 1; omega
        · show g ≤ 8 - 1; omega
        · show nn ≤ 99; omega
        · show (1 : Int) ≤ 5; decide
        · show (5 : Int) ≤ 1000; decide
      have op : o.p = pu := by rw [eo]
      have on : o.n = 0 ∨ o.n = 1 := by
        have e : o.n = nn := by rw [eo]
        rw [e]; omega
      have Wd := Wc.same (same_upd (o := .tup [.int pu, .int nn, .int g, .int 5]) nb)
      have hb : upd Hc b (.tup [.int pu, .int nn, .int g, .int 5]) b = some (.tup (ordV o)) := by rw [eo]; exact upd_same
      generalize upd Hc b (.tup [.int pu, .int nn, .int g, .int 5]) = Hd at Wd hb
      clear Wc nb eo
      -- what the owner signed besides
      refine ⟨_, rfl, L, kvl, rfl, Wd.hL, fun fo => lc_dT (fun i ys σ H' => ∃ v, σ = [v, some (.int ow), some (.ref b), some (.ref L)] ∧ Same (upd Hd L (.frz fo (.dT kvl))) H' ∧ TupsH H' ys ((mineL (ls.take i) ow o).map ordI)) ⟨none, rfl, Same.refl _, .nil⟩ ?_ ?_ ?_⟩
      · rintro i ys σ H' hi ⟨v, rfl, sm, tu⟩
        refine ⟨sm _ _ upd_same, len1000 ?_⟩
        rw [Paired.length tu, List.length_map, mineL, List.length_map]
        exact Nat.le_trans (List.length_filter_le _ _) (by rw [List.length_take]; omega)
      · rintro i kv c ys σ H' ek ec ⟨v, rfl, sm, tu⟩
        obtain ⟨p, ep, ekp⟩ := sg_at Wd.hl ek
        have pm : p ∈ ls := List.mem_of_getElem? ep
        rw [ekp] at ec
        have ic := ec
        rw [← ordV_key] at ic
        obtain ⟨d, vd, hd0⟩ := sg_get Wd.hl (List.mem_map_of_mem pm)
        rw [housesJ_at mi.nd pm] at hd0
        have hd' : H' d = some (.lst (p.2.map V.int)) := sm _ _ (by rw [upd_ne (ne_of hd0 Wd.hL (by intro z; cases z))]; exact hd0)
        have hb' : H' b = some (.tup (ordV o)) := sm _ _ (by rw [upd_ne (ne_of hb Wd.hL (by intro z; cases z))]; exact hb)
        refine ⟨_, rfl, _, rfl, _, rfl, L, .ref d, rfl, .inr ⟨kvl, keyI (ordI p.1), c, .inr ⟨fo, sm _ _ upd_same⟩, rfl, ec, vd.symm⟩, d, _, rfl, .inl (SqL.of hd'), rfl, flat_ints _, _, rfl, ?_⟩
        rw [if_neg (by decide), inV_ints]
        have skip : ¬ (ow ∈ p.2 ∧ p.1.n = o.n ∧ p.1 ≠ o) → ∃ v, ([some (V.ref c), some (V.int ow), some (V.ref b), some (V.ref L)] : St) = [v, some (V.int ow), some (V.ref b), some (V.ref L)] ∧ Same (upd Hd L (.frz fo (.dT kvl))) H' ∧ TupsH H' ys ((mineL (ls.take (i + 1)) ow o).map ordI) := fun z => by
          refine ⟨_, rfl, sm, ?_⟩
          rw [mineL_snoc ep, if_neg z, List.append_nil]
          exact tu
        refine ite2 (fun z1 => ?_) (fun z1 => iteF (skip fun z => z1 (decide_eq_true z.1)))
        refine ⟨_, rfl, c, ordV p.1, 1, .int p.1.n, rfl, rfl, SqT.of ic, rfl, _, rfl, b, ordV o, 1, .int o.n, rfl, rfl, SqT.of hb', rfl, rfl, _, rfl, ite2 (fun z2 => ?_) (fun z2 => iteF (skip fun z => z2 (by simp [z.2.1])))⟩
        refine ⟨_, rfl, _, rfl, ordDt p.1, ordDt o, hasD_ord ⟨c, rfl, ic⟩, hasD_ord ⟨b, rfl, hb'⟩, dep_ord _, _, rfl, ?_⟩
        rw [eqD_ord]
        by_cases z3 : p.1 = o
        · rw [decide_eq_true z3]
          exact iteF (skip fun z => z.2.2 z3)
        · rw [decide_eq_false z3]
          refine iteT ⟨_, rfl, _, rfl, sm, ?_⟩
          rw [mineL_snoc ep, if_pos ⟨of_decide_eq_true z1, by simpa using z2, z3⟩, List.map_append]
          exact paired_app tu ⟨c, rfl, ic⟩
      rintro ys σ H' ⟨v, rfl, sm, tu⟩ r nr
      rw [len, List.take_length] at tu
      obtain ⟨rL, r0, sT, kpT⟩ := thaw_same (ys := ys) Wd.hL sm nr
      refine ⟨L, fo, .dT kvl, (by rw [upd_ne rL.symm]; exact sm _ _ upd_same), fun o' u' z => ?_, True.intro, ?_⟩
      · have z' : H L = some (.frz o' u') := z
        rw [nLH] at z'
        cases z'
      have We := Wd.same sT
      have hb1 := sT _ _ hb
      have hr1 : upd (upd H' r (.lst ys)) L (.dT kvl) r = some (.lst ys) := by rw [upd_ne rL]; exact upd_same
      have tu1 : TupsH (upd (upd H' r (.lst ys)) L (.dT kvl)) ys ((mineL ls ow o).map ordI) := Paired.mapP tu fun _ _ ⟨a, e, h⟩ => ⟨a, e, kpT _ _ h fun _ _ z => by cases z⟩
      generalize upd (upd H' r (.lst ys)) L (.dT kvl) = He at We hb1 hr1 tu1 sT kpT
      clear sm tu nr kpT rL r0 sT Wd
      dsimp only [cxOf, Cx.nox]
      refine seqJ (fun σ' H' => ∃ kvs js kvl ls, σ' = [some (.ref a), some (.ref To), some (.int m), some (.int en), some (.ref N), some (.int pu), some (.ref j), some (.ref G), some (.ref L), some (.int (0 + (i : Int))), some (.int ow), some (.ref b), some (.ref r), v13, v14, none, none, none, none] ∧
        Lw t H' To R j dj pu m en C B ks dB S kvs js L kvl ls G (g0 :: g1 :: gr) N ∧ Paired Ak js ls ∧ MI pu m ks ls ∧ ls.length ≤ i + 1) (fun Nx hNx => ?_) ?_
      · refine ifJ (fun c H' => Same He H' ∧ (c = true → ow ∈ ks ∨ (signedO ls ow).any (clashB o) = false)) (fun Q' hQ => ?_) (fun Hf ⟨sf, hc⟩ => ?_) (fun Hf ⟨sf, _⟩ => ?_)
        · refine ⟨_, rfl, _, rfl, N, _, rfl, .inl (SqL.of We.hN), rfl, flat_ints _, _, rfl, ?_⟩
          rw [if_neg (by decide), inV_ints]
          refine ite2 (fun z => hQ _ _ ⟨Same.refl _, fun _ => .inl (of_decide_eq_true z)⟩) (fun z => ?_)
          refine ⟨_, rfl, (by show 0 ≤ sizeLine; decide), fun e he => ?_⟩
          have se := same_upd (o := .lst []) he
          refine ⟨_, .lst (([] : List Int).map Dt.int), hasD_tups (se _ _ hr1) (tupsH_at (TupsH.same se tu1)), hasD_listI (SqL.of upd_same), dep_tups _, _, rfl, hQ _ _ ⟨se, fun z2 => .inr ?_⟩⟩
          exact mine_none (mi := fun p hp => (mi.od p hp).2.1) op (by
            cases e2 : mineL ls ow o with
            | nil => rfl
            | cons x xs =>
              rw [e2] at z2
              simp [eqD, eqDs] at z2)
        · have hcl := hc rfl
          have Wf := We.same sf
          have hbf := sf _ _ hb1
          have hkf := hbf
          rw [ordV_key] at hkf
          refine ⟨_, rfl, L, rfl, .inr ⟨kvl, .inl Wf.hL⟩, _, rfl, (by show 0 ≤ sizeLine; decide), fun e1 ne1 => ?_⟩
          have t1 := same_upd (o := .lst []) ne1
          refine ⟨_, .inr ⟨kvl, keyI (ordI o), b, .inl (t1 _ _ Wf.hL), rfl, t1 _ _ hkf, rfl⟩, ?_⟩
          obtain ⟨l, el, hl1⟩ : ∃ l, (valV kvl (keyI (ordI o))).getD (.ref e1) = .ref l ∧ upd Hf e1 (.lst []) l = some (.lst ((housesJ ls o).map V.int)) := by
            rcases val_houses (k := keyI (ordI o)) Wf.hl with ⟨v1, v2, _⟩ | ⟨c, v1, v2⟩
            · rw [houses_J] at v2
              rw [v1, v2]
              exact ⟨e1, rfl, upd_same⟩
            · rw [houses_J] at v2
              rw [v1]
              exact ⟨c, rfl, t1 _ _ v2⟩
          rw [el]
          refine ⟨_, rfl, (by show 1 ≤ sizeLine; decide), fun e2 ne2 => ?_⟩
          have t2 := same_upd (o := .lst [.int ow]) ne2
          have hh := mi.houses o
          have lh : (housesJ ls o).length ≤ 6 := rise6 hh.1 fun h hm => by have := hh.2 h hm; omega
          refine ⟨l, e2, _, _, rfl, rfl, t2 _ _ hl1, upd_same, ?_, fun e3 ne3 => ?_⟩
          · rw [List.length_map]
            exact len1000 (by show (housesJ ls o).length + 1 ≤ 1000; omega)
          have t3 := same_upd (o := .lst ((housesJ ls o).map V.int ++ [.int ow])) ne3
          refine ⟨e3, housesJ ls o ++ [ow], rfl, SqL.of (by rw [upd_same, List.map_append]; rfl), fun z hz => ?_, fun q js6 nq hjs hmem => ?_⟩
          · rcases List.mem_append.mp hz with y | y
            · have := hh.2 z y; omega
            · rw [List.mem_singleton.mp y]; omega
          have t4 := same_upd (o := IsSet w q js6) nq
          refine ⟨q, js6, rfl, upd_same, hjs, fun r2 nr2 => ?_⟩
          obtain ⟨_, _, up6, _, _⟩ := wkF_all _ (led_mem true) js6 hjs
          obtain ⟨ns6, en6⟩ : ∃ ns6 : List Int, ns6 = js6.map fun (j : Nat) => (j : Int) := ⟨_, rfl⟩
          have up : ns6.Pairwise (· < ·) := by rw [en6]; exact List.pairwise_map.mpr (up6.imp fun h => by omega)
          have mm : ∀ z, z ∈ ns6 ↔ z ∈ housesJ ls o ∨ z = ow := fun z => by
            rw [en6, List.mem_map]
            constructor
            · rintro ⟨j', hj, rfl⟩
              have := (hmem j').mp hj
              exact (List.mem_append.mp this).imp id fun y => List.mem_singleton.mp y
            · intro hz
              have z0 : 0 ≤ z := by
                rcases hz with y | y
                · exact (hh.2 z y).1
                · omega
              obtain ⟨j', rfl⟩ := Int.eq_ofNat_of_zero_le z0
              exact ⟨j', (hmem j').mpr (List.mem_append.mpr (hz.imp id fun y => by simp [y])), rfl⟩
          have t5 := same_upd (o := .lst (js6.map fun (j : Nat) => V.int j)) nr2
          have tt := (((t1.trans t2).trans t3).trans t4).trans t5
          have Wg0 := Wf.same (((t1.trans t2).trans t3).trans t4)
          have f2 := Wg0.tn.fresh nr2
          have n2 := notNew Wg0.J.bd.hs nr2
          have Wg := Wf.same tt
          have hbg := tt _ _ hbf
          have hkg := tt _ _ hkf
          have hr2 := upd_same (H := upd (upd (upd (upd Hf e1 (.lst [])) e2 (.lst [.int ow])) e3 (.lst ((housesJ ls o).map V.int ++ [.int ow]))) q (IsSet w q js6)) (a := r2) (o := .lst (js6.map fun (j : Nat) => V.int j))
          have hr2' : (js6.map fun (j : Nat) => V.int j) = ns6.map V.int := by rw [en6, List.map_map]; rfl
          rw [hr2'] at hr2 Wg hbg hkg
          rw [hr2']
          generalize upd (upd (upd (upd (upd Hf e1 (.lst [])) e2 (.lst [.int ow])) e3 (.lst ((housesJ ls o).map V.int ++ [.int ow]))) q (IsSet w q js6)) r2 (.lst (ns6.map V.int)) = Hg at Wg hbg hkg hr2
          clear t1 t2 t3 t4 t5 tt Wg0 ne1 ne2 ne3 nq nr2 hl1 el
          refine ⟨_, rfl, _, rfl, L, _, rfl, DPut.t Wg.hL hkg (small1000 (by omega)), ?_⟩
          have Wh := Wg.put mi.nd (o := o) hr2 f2 n2
          have hbh : upd Hg L (.dT (putK kvl (keyI (ordI o)) (.ref r2))) b = some (.tup (ordV o)) := by rw [upd_ne (ne_of hbg Wg.hL (by intro z; cases z))]; exact hbg
          generalize upd Hg L (.dT (putK kvl (keyI (ordI o)) (.ref r2))) = Hh at Wh hbh
          clear Wg hbg hkg hr2
          -- the signature
          have ak' : Paired Ak (putJ js o ow) (setJ ls o ns6) := ak_put up ak mm
          have mi' : MI pu m ks (setJ ls o ns6) := mi.set ho op on up mm ow0 ow1 hcl
          have hallJ : ∀ p ∈ js, isOrd 8 p.1 = true := fun p hp => by
            have hk := List.mem_map_of_mem (f := (·.1)) hp
            rw [ak_keys ak] at hk
            obtain ⟨q', hq', e'⟩ := List.mem_map.mp hk
            rw [← e']
            exact (mi.od q' hq').1
          refine ⟨_, rfl, j, dj, _, rfl, Wh.J.ob, jf_no _ _ _ _ (by decide +kernel) (by decide +kernel) (by decide +kernel) (by decide +kernel), _, rfl, _, rfl, j, dj, pu, m, en, C, B, ks, dB, S, kvs, js, ow, b, o, rfl, Wh.J, by omega, (by rw [ak_hlen ak]; omega), hbh, ho, hallJ, op, ow0, ow1, (by rw [ak_signed ow ak]; exact hcl), fun kvs' Hs J' kp ni => ?_⟩
          have Ws := Wh.sign J' kp ni
          have hbs := Wh.tupS kp hbh
          have hks := hbs
          rw [ordV_key] at hks
          have hmo : o ∈ (setJ ls o ns6).map (·.1) := by
            rw [set_keys]
            by_cases z : o ∈ ls.map (·.1)
            · rw [if_pos z]; exact z
            · rw [if_neg z]; simp
          have hso : housesJ (setJ ls o ns6) o = ns6 := by rw [houses_set, if_pos rfl]
          obtain ⟨c, vc, hcs⟩ := sg_get Ws.hl hmo
          rw [hso] at hcs
          refine ⟨_, rfl, _, rfl, L, .ref c, rfl, .inr ⟨_, keyI (ordI o), b, .inl Ws.hL, rfl, hks, vc.symm⟩, c, _, rfl, .inl (SqL.of hcs), _, rfl, _, _, rfl, rfl, _, _, rfl, ?_⟩
          have el : ((housesJ (putJ js o ow) o).length : Int) = ((ns6.map V.int).length : Int) := by
            rw [ak_hlen ak', hso, List.length_map]
          rw [el, decide_eq_true rfl]
          refine ⟨_, rfl, iteF ?_⟩
          have l6 : ns6.length ≤ 6 := by
            have hh' := mi'.houses o
            rw [hso] at hh'
            exact rise6 hh'.1 fun h hm => by have := hh'.2 h hm; omega
          have lho : (housesOf (thP (isO (putJ js o ow))) (keyI (ordI o))).length < 64 := by
            rw [houses_J, ak_hlen ak', hso]
            omega
          refine ⟨_, rfl, j, dj, _, rfl, Ws.J.ob, jf_no _ _ _ _ (by decide +kernel) (by decide +kernel) (by decide +kernel) (by decide +kernel), _, rfl, j, dj, pu, m, en, C, B, ks, dB, S, kvs', isO (putJ js o ow), b, o, rfl, Ws.J, hbs, ho, lho, fun r3 ns3 H3 nr3 s3 pm3 up3 hr3 => ?_⟩
          have e3 : ns3 = ns6 := by
            rw [houses_J] at pm3
            obtain ⟨a1, a2, a3⟩ := ak_houses o ak'
            rw [hso] at a1 a3
            refine up_unique lt_asy ?_ a3 fun z => by rw [pm3.mem_iff]; exact a1 z
            exact le_lt up3 (pm3.nodup_iff.mpr a2)
          refine ⟨_, rfl, _, rfl, L, .ref c, rfl, .inr ⟨_, keyI (ordI o), b, .inl (s3 _ _ Ws.hL), rfl, s3 _ _ hks, vc.symm⟩, .lst (ns3.map Dt.int), .lst (ns6.map Dt.int), hasD_listI (SqL.of hr3), hasD_listI (SqL.of (s3 _ _ hcs)), dep_listI _, _, rfl, ?_⟩
          rw [eqD_listI, decide_eq_true e3]
          refine iteF (hNx _ _ ⟨kvs', putJ js o ow, _, setJ ls o ns6, rfl, Ws.same s3, ak', mi', ?_⟩)
          have := set_len (o := o) (ns := ns6) (ls := ls)
          omega
        · refine hNx _ _ ⟨kvs, js, kvl, ls, rfl, We.same sf, ak, mi, by omega⟩
      · clear hb1 hr1 tu1 We
        rintro σ' Hz ⟨kvs, js, kvl, ls, rfl, W, ak, mi, li⟩
        have len := sg_len W.hl
        have lenJ : kvs.length = js.length := sg_len W.J.bd.hs
        have lenA : js.length = ls.length := Paired.length ak
        have ndJ : ((isO js).map (·.1)).Nodup := by
          have e : (isO js).map (·.1) = (js.map (·.1)).map ordI := by
            unfold isO
            rw [List.map_map, List.map_map]
            rfl
          rw [e, ak_keys ak]
          exact map_nodup ordI mi.nd fun _ _ _ _ z => ordI_inj z
        have ndC : (carriedI (isO ls) en).Nodup := by
          rw [← ak_carried en ak]
          exact ndJ.sublist (List.filter_sublist.map _)
        have neJ : ∀ x ∈ isO js, x.1 ≠ [] := fun x hx => by
          obtain ⟨p, _, rfl⟩ := List.mem_map.mp hx
          intro z
          cases z
        have hallJ : ∀ p ∈ js, isOrd 8 p.1 = true := fun p hp => by
          have hk := List.mem_map_of_mem (f := (·.1)) hp
          rw [ak_keys ak] at hk
          obtain ⟨q', hq', e'⟩ := List.mem_map.mp hk
          rw [← e']
          exact (mi.od q' hq').1
        refine ⟨_, rfl, L, kvl, rfl, W.hL, fun fo => lc_dT (fun i ys σ H' => ∃ v, σ = [v, some (.int en), some (.ref L)] ∧ Same (upd Hz L (.frz fo (.dT kvl))) H' ∧ TupsH H' ys (carriedI (isO (ls.take i)) en)) ⟨none, rfl, Same.refl _, .nil⟩ ?_ ?_ ?_⟩
        · rintro i ys σ H' hi ⟨v, rfl, sm, tu⟩
          refine ⟨sm _ _ upd_same, len1000 ?_⟩
          rw [Paired.length tu, carriedI, List.length_map]
          refine Nat.le_trans (List.length_filter_le _ _) ?_
          rw [isO, List.length_map, List.length_take]
          omega
        · rintro i kv c ys σ H' ek ec ⟨v, rfl, sm, tu⟩
          obtain ⟨p, ep, ekp⟩ := sg_at W.hl ek
          have pm : p ∈ ls := List.mem_of_getElem? ep
          rw [ekp] at ec
          have ic := ec
          rw [keyI_map] at ic
          obtain ⟨d, vd, hd0⟩ := sg_get W.hl (List.mem_map_of_mem pm)
          rw [housesJ_at mi.nd pm] at hd0
          have hd' : H' d = some (.lst (p.2.map V.int)) := sm _ _ (by rw [upd_ne (ne_of hd0 W.hL (by intro z; cases z))]; exact hd0)
          have tk : carriedI (isO (ls.take (i + 1))) en = carriedI (isO (ls.take i)) en ++ (if en ≤ (p.2.length : Int) then [ordI p.1] else []) := by
            unfold carriedI isO
            rw [take_snoc ep, List.map_append, List.filter_append, List.map_append]
            by_cases z : en ≤ (p.2.length : Int) <;> simp [z]
          refine ⟨_, rfl, _, rfl, L, .ref d, rfl, .inr ⟨kvl, keyI (ordI p.1), c, .inr ⟨fo, sm _ _ upd_same⟩, rfl, ec, vd.symm⟩, d, _, rfl, .inl (SqL.of hd'), _, rfl, _, _, rfl, rfl, _, rfl, ?_⟩
          rw [List.length_map]
          refine ite2 (fun z => ?_) (fun z => ?_)
          · refine ⟨_, rfl, _, rfl, sm, ?_⟩
            rw [tk, if_pos (of_decide_eq_true z)]
            exact paired_app tu ⟨c, rfl, ic⟩
          · refine ⟨_, rfl, sm, ?_⟩
            rw [tk, if_neg (fun y => z (decide_eq_true y)), List.append_nil]
            exact tu
        rintro ys σ H' ⟨v, rfl, sm, tu⟩ r3 nr3
        rw [len, List.take_length] at tu
        obtain ⟨rL, r0, sT, kpT⟩ := thaw_same (ys := ys) W.hL sm nr3
        refine ⟨L, fo, .dT kvl, (by rw [upd_ne rL.symm]; exact sm _ _ upd_same), fun o' u' z => ?_, True.intro, ?_⟩
        · have z' : H L = some (.frz o' u') := z
          rw [nLH] at z'
          cases z'
        have W1 := W.same sT
        have hr3 : upd (upd H' r3 (.lst ys)) L (.dT kvl) r3 = some (.lst ys) := by rw [upd_ne rL]; exact upd_same
        have tu3 : TupsH (upd (upd H' r3 (.lst ys)) L (.dT kvl)) ys (carriedI (isO ls) en) := Paired.mapP tu fun _ _ ⟨a, e, h⟩ => ⟨a, e, kpT _ _ h fun _ _ z => by cases z⟩
        generalize upd (upd H' r3 (.lst ys)) L (.dT kvl) = Hy at W1 hr3 tu3 sT kpT
        clear sm tu nr3 kpT rL r0 sT W
        have lys : ys.length < 64 := by
          rw [Paired.length tu3, carriedI, List.length_map]
          refine Nat.lt_of_le_of_lt (List.length_filter_le _ _) ?_
          rw [isO, List.length_map]
          omega
        refine ⟨r3, ys, carriedI (isO ls) en, rfl, SqL.of hr3, tupsH_at tu3, lys, ndC, fun u hu => ?_, fun q vs ts _ nq _ _ _ _ pt ta pw => ?_⟩
        · obtain ⟨p, _, _, rfl⟩ := mem_carried.mp hu
          intro z
          cases z
        have W2 := W1.same (same_upd (o := .lst vs) nq)
        have ta2 := tups_same (same_upd (o := .lst vs) nq) ta
        have hq : upd Hy q (.lst vs) q = some (.lst vs) := upd_same
        generalize upd Hy q (.lst vs) = H2' at W2 ta2 hq
        clear W1 hr3 tu3 ta nq
        have ndT : ts.Nodup := pt.nodup_iff.mpr ndC
        have lexA : ∀ a b : List Int, HT.lexLt a b = true → HT.lexLt b a = true → False := fun a b h1 h2 => by
          rw [lex_asy h1] at h2
          cases h2
        -- ready, and never two of one number
        dsimp only [gName]
        refine ifJ (fun c H' => c = false ∧ Same H2' H') (fun Q' hQ => ?_) (fun H' f => by cases f.1) (fun H3' f => ?_)
        · refine ⟨_, rfl, j, dj, _, rfl, W2.J.ob, jf_no _ _ _ _ (by decide +kernel) (by decide +kernel) (by decide +kernel) (by decide +kernel), j, dj, pu, m, en, C, B, ks, dB, S, kvs, isO js, rfl, W2.J, by omega, ndJ, neJ, fun r4 vs4 ts4 H4 nr4 s4 pt4 pw4 ta4 h4 => ?_⟩
          have e4 : ts4 = ts := up_unique lexA pw4 pw fun z => by rw [pt4.mem_iff, pt.mem_iff, ak_carried en ak]
          subst e4
          have W4 := W2.same s4
          refine ⟨_, rfl, _, _, hasD_tups h4 ta4, hasD_tups (s4 _ _ hq) (tups_same s4 ta2), dep_tups _, _, rfl, ?_⟩
          rw [eqD, eqDs_tups]
          refine iteF ?_
          refine ⟨_, rfl, j, dj, _, rfl, W4.J.ob, jf_no _ _ _ _ (by decide +kernel) (by decide +kernel) (by decide +kernel) (by decide +kernel), j, dj, pu, m, en, C, B, ks, dB, S, kvs, isO js, rfl, W4.J, _, _, rfl, rfl, _, rfl, ?_⟩
          refine ite2 (fun sure => ?_) (fun _ => hQ _ _ ⟨rfl, s4⟩)
          have sure' : m - (ks.length : Int) < 2 * (en - ks.length) := by
            have : decide (0 < en - (ks.length : Int) ∧ m - (ks.length : Int) < 2 * (en - ks.length)) = true := by simpa using sure
            exact (of_decide_eq_true this).2
          obtain ⟨mn, rfl⟩ := Int.eq_ofNat_of_zero_le (show 0 ≤ m by omega)
          have ndN : (ts4.map numT).Nodup := mi.nums nk rgk sure' ndT fun z hz => pt.mem_iff.mp hz
          have num01 : ∀ z ∈ ts4.map numT, 0 ≤ z ∧ z < 6 := fun z hz => by
            obtain ⟨tt, ht, rfl⟩ := List.mem_map.mp hz
            obtain ⟨p, hp, _, rfl⟩ := mem_carried.mp (pt.mem_iff.mp ht)
            have e : numT (ordI p.1) = p.1.n := rfl
            rw [e]
            rcases (mi.od p hp).2.2 with y | y <;> rw [y] <;> decide
          have lvs : vs.length = ts4.length := Paired.length ta2
          have lts : ts4.length ≤ 24 := by
            rw [pt.length_eq, carriedI, List.length_map]
            refine Nat.le_trans (List.length_filter_le _ _) ?_
            rw [isO, List.length_map]
            omega
          refine ⟨_, rfl, q, rfl, ⟨_, SqL.of (s4 _ _ hq)⟩, lc_list (K := K) (a := q) (xs := vs) (fun n ys σ H' => ∃ v, σ = [v] ∧ H' = H4 ∧ ys = ((ts4.take n).map numT).map V.int) ⟨none, rfl, rfl, by simp⟩ ?_ ?_ ?_⟩
          · rintro n ys σ H' hn ⟨v, rfl, rfl, rfl⟩
            refine ⟨SqL.of (s4 _ _ hq), len1000 ?_⟩
            rw [List.length_map, List.length_map, List.length_take]
            omega
          · rintro n x ys σ H' hx ⟨v, rfl, rfl, rfl⟩
            obtain ⟨tt, et, a', rfl, ha'⟩ := paired_get (tups_same s4 ta2) hx
            obtain ⟨p, hp, _, ett⟩ := mem_carried.mp (pt.mem_iff.mp (List.mem_of_getElem? et))
            refine tYes_intro ?_
            refine ⟨_, rfl, a', tt.map V.int, 1, .int (numT tt), rfl, rfl, ha', by rw [ett]; rfl, _, rfl, rfl, ?_⟩
            rw [take_snoc et, List.map_append, List.map_append]
            rfl
          · rintro ys σ H' ⟨v, rfl, rfl, rfl⟩ e5 ne5
            rw [lvs, List.take_length]
            refine ⟨e5, ts4.map numT, rfl, SqL.of upd_same, num01, fun e6 js6 ne6 hjs hmem => ?_⟩
            refine ⟨e6, js6, rfl, upd_same, hjs, ?_⟩
            have s5 := (same_upd (o := .lst ((ts4.map numT).map V.int)) ne5).trans (same_upd (o := IsSet w e6 js6) ne6)
            refine ⟨_, rfl, q, vs, rfl, .inl (SqL.of (s5 _ _ (s4 _ _ hq))), rfl, _, rfl, ?_⟩
            have ec : js6.length = vs.length := by
              rw [set_count hjs hmem ndN fun z hz => (num01 z hz).1, List.length_map, lvs]
            rw [ec, decide_eq_true rfl]
            exact hQ _ _ ⟨rfl, s4.trans s5⟩
        obtain ⟨_, s3⟩ := f
        have W3 := W2.same s3
        clear W2 ta2 hq
        -- who is two-faced
        refine ⟨_, rfl, L, kvl, ls, rfl, W3.hL, W3.hl, mi.nd, by omega, fun p hp => ⟨rise6 (mi.up p hp).1 fun h hm => (by have := (mi.up p hp).2 h hm; omega), fun h hm => (by have := (mi.up p hp).2 h hm; omega)⟩, fun r5 hs5 H5' nr5 s5 hr5 up5 m5 => ?_⟩
        have W5 := W3.same s5
        refine ⟨_, rfl, j, dj, _, rfl, W5.J.ob, jf_no _ _ _ _ (by decide +kernel) (by decide +kernel) (by decide +kernel) (by decide +kernel), j, dj, pu, m, en, C, B, ks, dB, S, kvs, js, rfl, W5.J, by omega, by omega, m6, hallJ, fun r6 hs6 H6' nr6 s6' hr6 up6 m6' => ?_⟩
        have W6 := W5.same s6'
        have e6 : hs6 = hs5 := up_unique lt_asy up6 up5 fun z => by
          rw [m6' z, m5 z, mi.faces z, ak_signed z ak]
        refine ⟨_, rfl, .lst (hs6.map Dt.int), .lst (hs5.map Dt.int), hasD_listI (SqL.of hr6), hasD_listI (SqL.of (s6' _ _ hr5)), dep_listI _, _, rfl, ?_⟩
        rw [eqD_listI, decide_eq_true e6]
        refine iteF ?_
        have hr5' := s6' _ _ hr5
        refine ⟨_, rfl, r5, rfl, ⟨_, SqL.of hr5'⟩, lc_list (K := K) (a := r5) (xs := hs5.map V.int) (fun n ys σ H' => ∃ v, σ = [v, some (.ref N)] ∧ H' = H6' ∧ ys = []) ⟨none, rfl, rfl, rfl⟩ ?_ ?_ ?_⟩
        · rintro n ys σ H' hn ⟨v, rfl, rfl, rfl⟩
          exact ⟨SqL.of hr5', (by show 0 ≤ sizeLine; decide)⟩
        · rintro n x ys σ H' hx ⟨v, rfl, rfl, rfl⟩
          obtain ⟨z, ez, rfl⟩ : ∃ z, hs5[n]? = some z ∧ x = .int z := by
            rw [List.getElem?_map] at hx
            cases e : hs5[n]? with
            | none => rw [e] at hx; cases hx
            | some z => rw [e] at hx; exact ⟨z, rfl, (Option.some.inj hx).symm⟩
          have hz : z ∈ ks := mi.cheats ((m5 z).mp (List.mem_of_getElem? ez))
          refine ⟨_, rfl, _, rfl, N, _, rfl, .inl (SqL.of W6.hN), rfl, flat_ints _, _, rfl, ?_⟩
          rw [if_pos rfl, inV_ints, decide_eq_true hz]
          exact iteF ⟨_, rfl, rfl, rfl⟩
        · rintro ys σ H' ⟨v, rfl, rfl, rfl⟩ e7 ne7
          refine ⟨(by show 0 ≤ sizeLine; decide), fun e8 ne8 => ?_⟩
          have s7' := same_upd (o := .lst []) ne7
          have s8' := same_upd (o := .lst []) ne8
          refine ⟨.lst (([] : List Int).map Dt.int), .lst (([] : List Int).map Dt.int), hasD_listI (SqL.of (s8' _ _ upd_same)), hasD_listI (SqL.of upd_same), dep_listI _, _, rfl, ?_⟩
          rw [eqD_listI, decide_eq_true rfl]
          exact iteF ⟨_, _, _, _, _, _, kvs, js, kvl, ls, rfl, (W6.same s7').same s8', ak, mi, li⟩
    · rintro σ H' ⟨v9, v10, v11, v12, v13, v14, kvs, js, kvl, ls, rfl, W, ak, mi, li⟩
      clear ak mi li
      have sN := W.hN
      have sG := W.hG
      refine ⟨_, rfl, _, rfl, _, rfl, _, rfl, fun x dx nx ndx ne => ?_⟩
      refine ⟨x, dx, pu, m, en, N, ks, rfl, upd_same, pu0, by omega, m1, m6, en1, enm, .inl (fresh_ins nx ndx ne sN).2, upk, rgk, fun Cf Bf dBf Sf Hp nCf nBf nSf Jf kpf => ⟨rfl, ?_⟩⟩
      have kf : ∀ {b : Addr} {u : HO}, H' b = some u → Hp b = some u := fun {b u} e => by
        obtain ⟨z1, z2⟩ := fresh_ins nx ndx ne e
        exact kpf _ _ z2 z1
      have pN := kf sN
      have pG := kf sG
      clear W sN sG kf kpf nCf nBf nSf nx ndx ne
      obtain ⟨mn, emn⟩ := Int.eq_ofNat_of_zero_le (show 0 ≤ m by omega)
      -- the honest owners
      refine ⟨_, rfl, m, rfl, by omega, by omega, lc_range (lo := 0) (n := m.toNat) (fun i ys σ H' => ∃ v, σ = [v, some (.ref N)] ∧ H' = Hp ∧ ys = (hon ks (rowI i)).map V.int) ⟨none, rfl, rfl, rfl⟩ ?_ ?_ ?_⟩
      · rintro i ys σ H' hi ⟨v, rfl, rfl, rfl⟩
        refine len1000 ?_
        rw [List.length_map]
        refine Nat.le_trans (List.length_filter_le _ _) ?_
        rw [len_rowI]
        omega
      · rintro i ys σ H' hi ⟨v, rfl, rfl, rfl⟩
        refine ⟨_, rfl, _, rfl, N, _, rfl, .inl (SqL.of pN), rfl, flat_ints _, _, rfl, ?_⟩
        have e0 : (0 : Int) + (i : Int) = i := by omega
        rw [e0, if_pos rfl, inV_ints]
        refine ite2 (fun z => ?_) (fun z => ?_)
        · have hn : (i : Int) ∉ ks := by simpa using z
          refine ⟨_, rfl, _, rfl, rfl, ?_⟩
          unfold hon
          rw [rowI_snoc, List.filter_append, List.map_append]
          simp [hn]
        · have hn : (i : Int) ∈ ks := by simpa using z
          refine ⟨_, rfl, rfl, ?_⟩
          unfold hon
          rw [rowI_snoc, List.filter_append, List.map_append]
          simp [hn]
      rintro ys σ H' ⟨v, rfl, rfl, rfl⟩ Ho nHo
      have emt : m.toNat = mn := by omega
      rw [emt]
      obtain ⟨hs, ehs⟩ : ∃ hs, hs = hon ks (rowI mn) := ⟨_, rfl⟩
      rw [← ehs]
      have ndh : hs.Nodup := by rw [ehs]; exact (nodup_rowI mn).filter _
      have hsm : ∀ h ∈ hs, h ∉ ks ∧ 0 ≤ h ∧ h < m := fun h hh => by
        rw [ehs] at hh
        obtain ⟨h1, h2⟩ := List.mem_filter.mp hh
        have := mem_rowI.mp h1
        exact ⟨of_decide_eq_true h2, by omega, by omega⟩
      have lhs : hs.length ≤ 6 := by
        rw [ehs]
        refine Nat.le_trans (List.length_filter_le _ _) ?_
        rw [len_rowI]
        omega
      have sp := same_upd (o := .lst (hs.map V.int)) nHo
      have F0 : Fw t (upd H' Ho (.lst (hs.map V.int))) x dx pu m en Cf Bf ks dBf Sf [] [] Ho hs G (g0 :: g1 :: gr) N := ⟨Jf.same sp, upd_same, sp _ _ pG, sp _ _ pN, fun kv h => (by cases h), fun kv h => (by cases h), fun kv h => (by cases h)⟩
      generalize upd H' Ho (.lst (hs.map V.int)) = Hq at F0
      clear sp Jf pN pG nHo
      refine ⟨_, rfl, _, rfl, N, _, rfl, .inl (SqL.of F0.hN), _, _, rfl, rfl, _, _, rfl, ?_⟩
      rw [List.length_map]
      obtain ⟨sh, esh⟩ : ∃ sh : Int, sh = if en - (ks.length : Int) > 0 then en - (ks.length : Int) else 0 := ⟨_, rfl⟩
      have sh0 : 0 ≤ sh := by rw [esh]; split <;> omega
      show gName 17 (V.int (if en - (ks.length : Int) > 0 then en - (ks.length : Int) else 0)) _ _ _
      rw [← esh]
      obtain ⟨oA, eA⟩ : ∃ o : O, o = ⟨pu, 9, g0, 7⟩ := ⟨_, rfl⟩
      obtain ⟨oB, eB⟩ : ∃ o : O, o = ⟨pu, 9, g1, 7⟩ := ⟨_, rfl⟩
      have neAB : oA ≠ oB := fun z => by
        rw [eA, eB] at z
        exact g01 (O.mk.inj z).2.2.1
      have okO : ∀ g ∈ g0 :: g1 :: gr, isOrd 8 (⟨pu, 9, g, 7⟩ : O) = true := fun g hg => by
        obtain ⟨gA, gB, gC⟩ := gm g hg
        refine isOrd_iff.mpr ⟨pu0, ?_, gA, ?_, fun z => gC z.symm, ?_, ?_, ?_, ?_⟩
        · show pu ≤ 8 - 1; omega
        · show g ≤ 8 - 1; omega
        · show (0 : Int) ≤ 9; decide
        · show (9 : Int) ≤ 99; decide
        · show (1 : Int) ≤ 7; decide
        · show (7 : Int) ≤ 1000; decide
      have okA : isOrd 8 oA = true := by rw [eA]; exact okO g0 (by simp)
      have okB : isOrd 8 oB = true := by rw [eB]; exact okO g1 (by simp)
      have ordT : ∀ {A B : List Int} {js : Sg}, Two oA oB A B js → ∀ p ∈ js, isOrd 8 p.1 = true := fun T p hp => by
        rcases T.ks p hp with z | z
        · rw [z]; exact okA
        · rw [z]; exact okB
      refine ⟨_, rfl, Ho, _, rfl, .inl (SqL.of F0.hHo), _, rfl, ?_, ?_, for_range (lo := 0) (n := Int.toNat ((hs.map V.int).length : Int)) (fun i σ H' => ∃ v18 kvs js, σ = [some (.ref a), some (.ref To), some (.int m), some (.int en), some (.ref N), some (.int pu), some (.ref j), some (.ref G), some (.ref L), v9, v10, v11, v12, v13, v14, some (.ref x), some (.ref Ho), some (.int sh), v18] ∧
          Fw t H' x dx pu m en Cf Bf ks dBf Sf kvs js Ho hs G (g0 :: g1 :: gr) N ∧ Two oA oB ((hs.take i).take sh.toNat) ((hs.take i).drop sh.toNat) js) ⟨none, [], [], rfl, F0, by simpa using Two.nil oA oB⟩ ?_ ?_⟩
      · rw [List.length_map]; omega
      · rw [List.length_map]; omega
      · rintro i σ H' hi ⟨v18, kvs, js, rfl, F, T2⟩
        have hi' : i < hs.length := by rw [List.length_map] at hi; omega
        have eh : hs[i]? = some hs[i] := by simp [hi']
        obtain ⟨h, eqh⟩ : ∃ h, h = hs[i] := ⟨_, rfl⟩
        rw [← eqh] at eh
        obtain ⟨hk, h0, h1⟩ := hsm h (List.mem_of_getElem? eh)
        have hnew : h ∉ hs.take i := fun z => by
          obtain ⟨j', hj', e'⟩ := List.mem_iff_getElem.mp z
          rw [List.getElem_take] at e'
          rw [List.length_take] at hj'
          have := (List.getElem_inj ndh).mp (e'.trans eqh)
          omega
        have e0 : (0 : Int) + (i : Int) = i := by omega
        refine ⟨_, rfl, x, dx, _, rfl, F.J.ob, jf_no _ _ _ _ (by decide +kernel) (by decide +kernel) (by decide +kernel) (by decide +kernel), ?_⟩
        rw [e0]
        refine ⟨_, rfl, _, rfl, Ho, _, (i : Int), .int h, rfl, rfl, SqL.of F.hHo, atI_of (by omega) (by rw [Int.toNat_natCast, List.getElem?_map, eh]; rfl), ?_⟩
        refine ⟨_, rfl, _, rfl, _, rfl, _, rfl, _, _, rfl, rfl, _, rfl, ?_⟩
        refine iteJ (fun v H2 => v = .int (if (i : Int) < sh then 0 else 1) ∧ H2 = H') (fun hc Q' hQ => ?_) (fun hc Q' hQ => ?_) ?_
        · exact hQ _ _ ⟨by rw [if_pos (of_decide_eq_true hc)], rfl⟩
        · exact hQ _ _ ⟨by rw [if_neg (of_decide_eq_false hc)], rfl⟩
        rintro v H2 ⟨rfl, rfl⟩
        obtain ⟨g, eg2⟩ : ∃ g, g = if (i : Int) < sh then g0 else g1 := ⟨_, rfl⟩
        obtain ⟨o, eo⟩ : ∃ o : O, o = if (i : Int) < sh then oA else oB := ⟨_, rfl⟩
        have eo2 : o = ⟨pu, 9, g, 7⟩ := by
          rw [eo, eg2]
          by_cases z : (i : Int) < sh
          · rw [if_pos z, if_pos z, eA]
          · rw [if_neg z, if_neg z, eB]
        have at2 : atI ((g0 :: g1 :: gr).map V.int) (if (i : Int) < sh then 0 else 1) = some (.int g) := by
          rw [eg2]
          by_cases z : (i : Int) < sh
          · rw [if_pos z, if_pos z]; exact atI_of (by decide) rfl
          · rw [if_neg z, if_neg z]; exact atI_of (by decide) rfl
        refine ⟨G, _, _, .int g, rfl, rfl, SqL.of F.hG, at2, (by show 4 ≤ sizeLine; decide), fun b nb => ?_⟩
        have sb := same_upd (o := .tup [.int pu, .int 9, .int g, .int 7]) nb
        have F1 := F.same sb
        have hb : upd H2 b (.tup [.int pu, .int 9, .int g, .int 7]) b = some (.tup (ordV o)) := by rw [eo2]; exact upd_same
        have ho : isOrd 8 o = true := by
          rw [eo]
          by_cases z : (i : Int) < sh
          · rw [if_pos z]; exact okA
          · rw [if_neg z]; exact okB
        have lk : kvs.length ≤ 2 := by rw [sg_len F.J.bd.hs]; exact T2.len
        have nA : h ∉ (hs.take i).take sh.toNat := fun z => hnew (List.mem_of_mem_take z)
        have nB : h ∉ (hs.take i).drop sh.toNat := fun z => hnew (List.mem_of_mem_drop z)
        have lh2 : (housesJ js o).length ≤ 1000 := by
          have l1 : ((hs.take i).take sh.toNat).length ≤ hs.length := by rw [List.length_take, List.length_take]; omega
          have l2 : ((hs.take i).drop sh.toNat).length ≤ hs.length := by rw [List.length_drop, List.length_take]; omega
          rw [eo]
          by_cases z : (i : Int) < sh
          · rw [if_pos z, T2.hA]; omega
          · rw [if_neg z, T2.hB]; omega
        refine ⟨x, dx, pu, m, en, Cf, Bf, ks, dBf, Sf, kvs, js, h, b, o, rfl, F1.J, by omega, lh2, hb, ho, ordT T2, by rw [eo2], h0, h1, .inr (T2.free nA nB o), fun kvs' Hs J' kp ni => ?_⟩
        refine ⟨_, kvs', putJ js o h, rfl, F1.sign J' kp ni, ?_⟩
        have lt : (hs.take i).length = i := by rw [List.length_take]; omega
        rw [take_snoc eh, eo]
        by_cases z : (i : Int) < sh
        · rw [if_pos z]
          have T3 := T2.putA neAB nA
          rw [List.take_of_length_le (by rw [List.length_append, lt]; show i + 1 ≤ sh.toNat; omega), List.drop_eq_nil_of_le (by rw [List.length_append, lt]; show i + 1 ≤ sh.toNat; omega)]
          rwa [List.take_of_length_le (by rw [lt]; omega), List.drop_eq_nil_of_le (by rw [lt]; omega)] at T3
        · rw [if_neg z]
          have T3 := T2.putB neAB nB
          rwa [List.take_append_of_le_length (by rw [lt]; omega), List.drop_append_of_le_length (by rw [lt]; omega)]
      · rintro σ H' ⟨v18, kvs, js, rfl, F, T2⟩
        rw [List.length_map, Int.toNat_natCast, List.take_length] at T2
        refine ⟨_, rfl, N, rfl, ⟨_, SqL.of F.hN⟩, for_list (K := K) (a := N) (xs := ks.map V.int) (fun i σ H' => ∃ v18 kvs js, σ = [some (.ref a), some (.ref To), some (.int m), some (.int en), some (.ref N), some (.int pu), some (.ref j), some (.ref G), some (.ref L), v9, v10, v11, v12, v13, v14, some (.ref x), some (.ref Ho), some (.int sh), v18] ∧
          Fw t H' x dx pu m en Cf Bf ks dBf Sf kvs js Ho hs G (g0 :: g1 :: gr) N ∧ Two oA oB (hs.take sh.toNat ++ ks.take i) (hs.drop sh.toNat ++ ks.take i) js) ⟨v18, kvs, js, rfl, F, by simpa using T2⟩ ?_ ?_ ?_⟩
        · rintro i σ H' hi ⟨v18, kvs, js, rfl, F, T2⟩
          exact SqL.of F.hN
        · rintro i xv σ H' hx ⟨v18, kvs, js, rfl, F, T2⟩
          obtain ⟨h, eh, rfl⟩ : ∃ z, ks[i]? = some z ∧ xv = .int z := by
            rw [List.getElem?_map] at hx
            cases e : ks[i]? with
            | none => rw [e] at hx; cases hx
            | some z => rw [e] at hx; exact ⟨z, rfl, (Option.some.inj hx).symm⟩
          have hk : h ∈ ks := List.mem_of_getElem? eh
          obtain ⟨h0, h1⟩ := rgk h hk
          have hnew : h ∉ ks.take i := fun z => by
            obtain ⟨hi2, e2⟩ := List.getElem?_eq_some_iff.mp eh
            obtain ⟨j', hj', e'⟩ := List.mem_iff_getElem.mp z
            rw [List.getElem_take] at e'
            rw [List.length_take] at hj'
            have := (List.getElem_inj nk).mp (e'.trans e2.symm)
            omega
          have nh : h ∉ hs := fun z => (hsm h z).1 hk
          have nA : h ∉ hs.take sh.toNat ++ ks.take i := fun z => (List.mem_append.mp z).elim (fun y => nh (List.mem_of_mem_take y)) hnew
          have nB : h ∉ hs.drop sh.toNat ++ ks.take i := fun z => (List.mem_append.mp z).elim (fun y => nh (List.mem_of_mem_drop y)) hnew
          have lks : ks.length ≤ 6 := rise6 upk fun z hz => by have := rgk z hz; omega
          have lA : (hs.take sh.toNat ++ ks.take i).length ≤ 12 := by rw [List.length_append, List.length_take, List.length_take]; omega
          have lB : (hs.drop sh.toNat ++ ks.take i).length ≤ 12 := by rw [List.length_append, List.length_drop, List.length_take]; omega
          have lk : kvs.length ≤ 2 := by rw [sg_len F.J.bd.hs]; exact T2.len
          refine ⟨_, rfl, x, dx, _, rfl, F.J.ob, jf_no _ _ _ _ (by decide +kernel) (by decide +kernel) (by decide +kernel) (by decide +kernel), _, rfl, _, rfl, _, rfl, G, _, _, .int g0, rfl, rfl, SqL.of F.hG, atI_of (by decide) rfl, (by show 4 ≤ sizeLine; decide), fun b nb => ?_⟩
          have sb := same_upd (o := .tup [.int pu, .int 9, .int g0, .int 7]) nb
          have F1 := F.same sb
          have hb : upd H' b (.tup [.int pu, .int 9, .int g0, .int 7]) b = some (.tup (ordV oA)) := by rw [eA]; exact upd_same
          refine ⟨x, dx, pu, m, en, Cf, Bf, ks, dBf, Sf, kvs, js, h, b, oA, rfl, F1.J, by omega, (by rw [T2.hA]; omega), hb, okA, ordT T2, by rw [eA], h0, h1, .inl hk, fun kvs2 H2 J2 kp2 ni2 => ?_⟩
          have F2 := F1.sign J2 kp2 ni2
          have T3 := T2.putA neAB nA
          have lk2 : kvs2.length ≤ 2 := by rw [sg_len F2.J.bd.hs]; exact T3.len
          refine ⟨_, rfl, x, dx, _, rfl, F2.J.ob, jf_no _ _ _ _ (by decide +kernel) (by decide +kernel) (by decide +kernel) (by decide +kernel), _, rfl, _, rfl, _, rfl, G, _, _, .int g1, rfl, rfl, SqL.of F2.hG, atI_of (by decide) rfl, (by show 4 ≤ sizeLine; decide), fun b2 nb2 => ?_⟩
          have sb2 := same_upd (o := .tup [.int pu, .int 9, .int g1, .int 7]) nb2
          have F3 := F2.same sb2
          have hb2 : upd H2 b2 (.tup [.int pu, .int 9, .int g1, .int 7]) b2 = some (.tup (ordV oB)) := by rw [eB]; exact upd_same
          refine ⟨x, dx, pu, m, en, Cf, Bf, ks, dBf, Sf, kvs2, putJ js oA h, h, b2, oB, rfl, F3.J, by omega, (by rw [T3.hB]; omega), hb2, okB, ordT T3, by rw [eB], h0, h1, .inl hk, fun kvs3 H3 J3 kp3 ni3 => ?_⟩
          refine ⟨_, kvs3, putJ (putJ js oA h) oB h, rfl, F3.sign J3 kp3 ni3, ?_⟩
          have T4 := T3.putB neAB nB
          rw [take_snoc eh, ← List.append_assoc, ← List.append_assoc]
          exact T4
        · rintro σ H' ⟨v18, kvs, js, rfl, F, T2⟩
          rw [List.length_map, List.take_length] at T2
          have lk : kvs.length ≤ 2 := by rw [sg_len F.J.bd.hs]; exact T2.len
          have ndJ : ((isO js).map (·.1)).Nodup := by
            have e : (isO js).map (·.1) = (js.map (·.1)).map ordI := by
              unfold isO
              rw [List.map_map, List.map_map]
              rfl
            rw [e]
            exact map_nodup ordI T2.nd fun _ _ _ _ z => ordI_inj z
          have neJ : ∀ x ∈ isO js, x.1 ≠ [] := fun x hx => by
            obtain ⟨p, _, rfl⟩ := List.mem_map.mp hx
            intro z
            cases z
          refine ⟨_, rfl, x, dx, _, rfl, F.J.ob, jf_no _ _ _ _ (by decide +kernel) (by decide +kernel) (by decide +kernel) (by decide +kernel), x, dx, pu, m, en, Cf, Bf, ks, dBf, Sf, kvs, isO js, rfl, F.J, ?_⟩
          refine ⟨_, rfl, x, dx, _, rfl, F.J.ob, jf_no _ _ _ _ (by decide +kernel) (by decide +kernel) (by decide +kernel) (by decide +kernel), x, dx, pu, m, en, Cf, Bf, ks, dBf, Sf, kvs, isO js, rfl, F.J, by omega, ndJ, neJ, fun r vs ts H2 nr s2 pt pw ta hr2 => ?_⟩
          refine ⟨r, vs, rfl, .inl (SqL.of hr2), _, _, rfl, rfl, _, _, rfl, ?_⟩
          have rd := T2.ready neAB en1 pt
          have su := sure_iff (n := mn) (en := en) (sh := sh) nk (fun k hk => by have := rgk k hk; omega) en1 (by omega) esh
          have lv : vs.length = ts.length := Paired.length ta
          have e1 : decide (0 < en - (ks.length : Int) ∧ m - (ks.length : Int) < 2 * (en - ks.length)) = decide ((vs.length : Int) < 2) := by
            rw [emn, su, ← ehs, decide_eq_decide, ← rd]
            omega
          rw [e1, decide_eq_true rfl]
          exact k _
end
set_option maxHeartbeats 4000000 in
theorem txt_mk {K : PySem.W.Frag} {h : Heap} {mg : Str → Option Value} (X : K.In h) (G : h.Ns mainGlobals mg)
    {ca0 : Addr}
    {ca1 : Addr}
    {f0 : Addr} {oc0 kV0 dc0 pm0 cd0 ct0 : Value} {od0 an0 : Option Addr} {sl0 : Array (Option Value)}
    {f1 : Addr} {oc1 kV1 dc1 pm1 cd1 ct1 : Value} {od1 an1 : Option Addr} {sl1 : Array (Option Value)}
    {f2 : Addr} {oc2 dc2 pm2 cd2 ct2 : Value} {od2 an2 : Option Addr} {sl2 : Array (Option Value)}
    {kd2 : Addr} {kt2 : Tok}
    {f3 : Addr} {oc3 kV3 dc3 pm3 cd3 ct3 : Value} {od3 an3 : Option Addr} {sl3 : Array (Option Value)}
    {f4 : Addr} {oc4 kV4 dc4 pm4 cd4 ct4 : Value} {od4 an4 : Option Addr} {sl4 : Array (Option Value)}
    {f5 : Addr} {oc5 kV5 dc5 pm5 cd5 ct5 : Value} {od5 an5 : Option Addr} {sl5 : Array (Option Value)}
    {f6 : Addr} {oc6 kV6 dc6 pm6 cd6 ct6 : Value} {od6 an6 : Option Addr} {sl6 : Array (Option Value)}
    {f7 : Addr} {oc7 kV7 dc7 pm7 cd7 ct7 : Value} {od7 an7 : Option Addr} {sl7 : Array (Option Value)}
    {f8 : Addr} {oc8 kV8 dc8 pm8 cd8 ct8 : Value} {od8 an8 : Option Addr} {sl8 : Array (Option Value)}
    {f9 : Addr} {oc9 kV9 dc9 pm9 cd9 ct9 : Value} {od9 an9 : Option Addr} {sl9 : Array (Option Value)}
    {f10 : Addr} {oc10 kV10 dc10 pm10 cd10 ct10 : Value} {od10 an10 : Option Addr} {sl10 : Array (Option Value)}
    {f11 : Addr} {oc11 kV11 dc11 pm11 cd11 ct11 : Value} {od11 an11 : Option Addr} {sl11 : Array (Option Value)}
    {f12 : Addr} {oc12 kV12 dc12 pm12 cd12 ct12 : Value} {od12 an12 : Option Addr} {sl12 : Array (Option Value)}
    {f13 : Addr} {oc13 kV13 dc13 pm13 cd13 ct13 : Value} {od13 an13 : Option Addr} {sl13 : Array (Option Value)}
    {f14 : Addr} {oc14 kV14 dc14 pm14 cd14 ct14 : Value} {od14 an14 : Option Addr} {sl14 : Array (Option Value)}
    {f15 : Addr} {oc15 kV15 dc15 pm15 cd15 ct15 : Value} {od15 an15 : Option Addr} {sl15 : Array (Option Value)}
    {f16 : Addr} {oc16 dc16 pm16 cd16 ct16 : Value} {od16 an16 : Option Addr} {sl16 : Array (Option Value)}
    {kd16 kt16 : Addr} {td16 : Option Addr} {tn16 : Nat} {ts16 : Array (Option Value)}
    {f17 : Addr} {oc17 kV17 dc17 pm17 cd17 ct17 : Value} {od17 an17 : Option Addr} {sl17 : Array (Option Value)}
    {f18 : Addr} {oc18 kV18 dc18 pm18 cd18 ct18 : Value} {od18 an18 : Option Addr} {sl18 : Array (Option Value)}
    {f19 : Addr} {oc19 kV19 dc19 pm19 cd19 ct19 : Value} {od19 an19 : Option Addr} {sl19 : Array (Option Value)}
    {f20 : Addr} {oc20 kV20 dc20 pm20 cd20 ct20 : Value} {od20 an20 : Option Addr} {sl20 : Array (Option Value)}
    {f21 : Addr} {oc21 kV21 dc21 pm21 cd21 ct21 : Value} {od21 an21 : Option Addr} {sl21 : Array (Option Value)}
    {f22 : Addr} {oc22 kV22 dc22 pm22 cd22 ct22 : Value} {od22 an22 : Option Addr} {sl22 : Array (Option Value)}
    {f23 : Addr} {oc23 kV23 dc23 pm23 cd23 ct23 : Value} {od23 an23 : Option Addr} {sl23 : Array (Option Value)}
    {f24 : Addr} {oc24 kV24 dc24 pm24 cd24 ct24 : Value} {od24 an24 : Option Addr} {sl24 : Array (Option Value)}
    {f25 : Addr} {oc25 kV25 dc25 pm25 cd25 ct25 : Value} {od25 an25 : Option Addr} {sl25 : Array (Option Value)}
    {f26 : Addr} {oc26 kV26 dc26 pm26 cd26 ct26 : Value} {od26 an26 : Option Addr} {sl26 : Array (Option Value)}
    {f27 : Addr} {oc27 kV27 dc27 pm27 cd27 ct27 : Value} {od27 an27 : Option Addr} {sl27 : Array (Option Value)}
    {f28 : Addr} {oc28 kV28 dc28 pm28 cd28 ct28 : Value} {od28 an28 : Option Addr} {sl28 : Array (Option Value)}
    {f29 : Addr} {oc29 kV29 dc29 pm29 cd29 ct29 : Value} {od29 an29 : Option Addr} {sl29 : Array (Option Value)}
    {gt0 : Tok}
    {gt1 : Tok}
    {gt2 : Tok}
    {gt3 : Tok}
    (cm0 : PySem.W.nsIn K mainGlobals "Board" = some (some (.ref ca0)))
    (cg0 : PySem.W.plainGet K ca0 Str.empty = true) (ch0 : PySem.W.hasDictIn K ca0 = true) (co0 : PySem.W.plainOver K ca0 = true) (cs0 : PySem.W.findIn K (.ref ca0) "__setattr__" = some (some (.builtin "object.__setattr__")))
    (cn0_0 : PySem.W.findIn K (.ref ca0) "enough" = some none)
    (cn0_1 : PySem.W.findIn K (.ref ca0) "signers" = some none)
    (cm1 : PySem.W.nsIn K mainGlobals "Joint" = some (some (.ref ca1)))
    (cg1 : PySem.W.plainGet K ca1 Str.empty = true) (ch1 : PySem.W.hasDictIn K ca1 = true) (co1 : PySem.W.plainOver K ca1 = true) (cs1 : PySem.W.findIn K (.ref ca1) "__setattr__" = some (some (.builtin "object.__setattr__")))
    (cn1_0 : PySem.W.findIn K (.ref ca1) "purse" = some none)
    (cn1_1 : PySem.W.findIn K (.ref ca1) "owners" = some none)
    (cn1_2 : PySem.W.findIn K (.ref ca1) "cheating" = some none)
    (cn1_3 : PySem.W.findIn K (.ref ca1) "board" = some none)
    (a0 : PySem.W.nsIn K mainGlobals "is_whole" = some (some (.ref f0)))
    (l0 : K.lookup f0 = some ⟨oc0, od0, .func (PySem.W.fnOf "is_whole" "is_whole" (defArgs s_is_whole) (defBody s_is_whole) (defScope s_is_whole) .none kV0 dc0 pm0 an0 cd0 ct0), sl0⟩)
    (c0 : PySem.W.codeIn K cd0 "is_whole" = true) (k0 : PySem.W.keepIn K (.ref f0) = true)
    (a1 : PySem.W.nsIn K mainGlobals "is_between" = some (some (.ref f1)))
    (l1 : K.lookup f1 = some ⟨oc1, od1, .func (PySem.W.fnOf "is_between" "is_between" (defArgs s_is_between) (defBody s_is_between) (defScope s_is_between) .none kV1 dc1 pm1 an1 cd1 ct1), sl1⟩)
    (c1 : PySem.W.codeIn K cd1 "is_between" = true) (k1 : PySem.W.keepIn K (.ref f1) = true)
    (a2 : PySem.W.nsIn K mainGlobals "is_order" = some (some (.ref f2)))
    (l2 : K.lookup f2 = some ⟨oc2, od2, .func (PySem.W.fnOf "is_order" "is_order" (defArgs s_is_order) (defBody s_is_order) (defScope s_is_order) .none (.ref kd2) dc2 pm2 an2 cd2 ct2), sl2⟩)
    (c2 : PySem.W.codeIn K cd2 "is_order" = true) (k2 : PySem.W.keepIn K (.ref f2) = true)
    (e2 : PySem.W.nsIn K kd2 "purses" = some (some (.int 8 kt2)))
    (a3 : PySem.W.nsIn K mainGlobals "place_of" = some (some (.ref f3)))
    (l3 : K.lookup f3 = some ⟨oc3, od3, .func (PySem.W.fnOf "place_of" "place_of" (defArgs s_place_of) (defBody s_place_of) (defScope s_place_of) .none kV3 dc3 pm3 an3 cd3 ct3), sl3⟩)
    (c3 : PySem.W.codeIn K cd3 "place_of" = true) (k3 : PySem.W.keepIn K (.ref f3) = true)
    (a4 : PySem.W.nsIn K mainGlobals "clash" = some (some (.ref f4)))
    (l4 : K.lookup f4 = some ⟨oc4, od4, .func (PySem.W.fnOf "clash" "clash" (defArgs s_clash) (defBody s_clash) (defScope s_clash) .none kV4 dc4 pm4 an4 cd4 ct4), sl4⟩)
    (c4 : PySem.W.codeIn K cd4 "clash" = true) (k4 : PySem.W.keepIn K (.ref f4) = true)
    (a5 : PySem.W.nsIn K mainGlobals "are_rising" = some (some (.ref f5)))
    (l5 : K.lookup f5 = some ⟨oc5, od5, .func (PySem.W.fnOf "are_rising" "are_rising" (defArgs s_are_rising) (defBody s_are_rising) (defScope s_are_rising) .none kV5 dc5 pm5 an5 cd5 ct5), sl5⟩)
    (c5 : PySem.W.codeIn K cd5 "are_rising" = true) (k5 : PySem.W.keepIn K (.ref f5) = true)
    (a6 : PySem.W.nsIn K mainGlobals "is_rising_row" = some (some (.ref f6)))
    (l6 : K.lookup f6 = some ⟨oc6, od6, .func (PySem.W.fnOf "is_rising_row" "is_rising_row" (defArgs s_is_rising_row) (defBody s_is_rising_row) (defScope s_is_rising_row) .none kV6 dc6 pm6 an6 cd6 ct6), sl6⟩)
    (c6 : PySem.W.codeIn K cd6 "is_rising_row" = true) (k6 : PySem.W.keepIn K (.ref f6) = true)
    (a7 : PySem.W.nsIn K mainGlobals "clashing_places" = some (some (.ref f7)))
    (l7 : K.lookup f7 = some ⟨oc7, od7, .func (PySem.W.fnOf "clashing_places" "clashing_places" (defArgs s_clashing_places) (defBody s_clashing_places) (defScope s_clashing_places) .none kV7 dc7 pm7 an7 cd7 ct7), sl7⟩)
    (c7 : PySem.W.codeIn K cd7 "clashing_places" = true) (k7 : PySem.W.keepIn K (.ref f7) = true)
    (a8 : PySem.W.nsIn K mainGlobals "check_owners" = some (some (.ref f8)))
    (l8 : K.lookup f8 = some ⟨oc8, od8, .func (PySem.W.fnOf "check_owners" "check_owners" (defArgs s_check_owners) (defBody s_check_owners) (defScope s_check_owners) .none kV8 dc8 pm8 an8 cd8 ct8), sl8⟩)
    (c8 : PySem.W.codeIn K cd8 "check_owners" = true) (k8 : PySem.W.keepIn K (.ref f8) = true)
    (a9 : PySem.W.nsIn K mainGlobals "check_order" = some (some (.ref f9)))
    (l9 : K.lookup f9 = some ⟨oc9, od9, .func (PySem.W.fnOf "check_order" "check_order" (defArgs s_check_order) (defBody s_check_order) (defScope s_check_order) .none kV9 dc9 pm9 an9 cd9 ct9), sl9⟩)
    (c9 : PySem.W.codeIn K cd9 "check_order" = true) (k9 : PySem.W.keepIn K (.ref f9) = true)
    (a10 : PySem.W.findIn K (.ref ca0) "__init__" = some (some (.ref f10))) (n10 : PySem.W.isFn K (.ref f10) = true)
    (mk10 : PySem.W.makesIn K ca0 = true) (mq10 : PySem.W.keepIn K (.ref ca0) = true)
    (l10 : K.lookup f10 = some ⟨oc10, od10, .func (PySem.W.fnOf "__init__" "Board.__init__" (defArgs s_Board___init__) (defBody s_Board___init__) (defScope s_Board___init__) .none kV10 dc10 pm10 an10 cd10 ct10), sl10⟩)
    (c10 : PySem.W.codeIn K cd10 "Board.__init__" = true) (k10 : PySem.W.keepIn K (.ref f10) = true)
    (a11 : PySem.W.findIn K (.ref ca0) "houses_for" = some (some (.ref f11))) (n11 : PySem.W.isFn K (.ref f11) = true)
    (l11 : K.lookup f11 = some ⟨oc11, od11, .func (PySem.W.fnOf "houses_for" "Board.houses_for" (defArgs s_Board_houses_for) (defBody s_Board_houses_for) (defScope s_Board_houses_for) .none kV11 dc11 pm11 an11 cd11 ct11), sl11⟩)
    (c11 : PySem.W.codeIn K cd11 "Board.houses_for" = true) (k11 : PySem.W.keepIn K (.ref f11) = true)
    (a12 : PySem.W.findIn K (.ref ca0) "is_carried" = some (some (.ref f12))) (n12 : PySem.W.isFn K (.ref f12) = true)
    (l12 : K.lookup f12 = some ⟨oc12, od12, .func (PySem.W.fnOf "is_carried" "Board.is_carried" (defArgs s_Board_is_carried) (defBody s_Board_is_carried) (defScope s_Board_is_carried) .none kV12 dc12 pm12 an12 cd12 ct12), sl12⟩)
    (c12 : PySem.W.codeIn K cd12 "Board.is_carried" = true) (k12 : PySem.W.keepIn K (.ref f12) = true)
    (a13 : PySem.W.findIn K (.ref ca0) "put" = some (some (.ref f13))) (n13 : PySem.W.isFn K (.ref f13) = true)
    (l13 : K.lookup f13 = some ⟨oc13, od13, .func (PySem.W.fnOf "put" "Board.put" (defArgs s_Board_put) (defBody s_Board_put) (defScope s_Board_put) .none kV13 dc13 pm13 an13 cd13 ct13), sl13⟩)
    (c13 : PySem.W.codeIn K cd13 "Board.put" = true) (k13 : PySem.W.keepIn K (.ref f13) = true)
    (a14 : PySem.W.findIn K (.ref ca0) "carried" = some (some (.ref f14))) (n14 : PySem.W.isFn K (.ref f14) = true)
    (l14 : K.lookup f14 = some ⟨oc14, od14, .func (PySem.W.fnOf "carried" "Board.carried" (defArgs s_Board_carried) (defBody s_Board_carried) (defScope s_Board_carried) .none kV14 dc14 pm14 an14 cd14 ct14), sl14⟩)
    (c14 : PySem.W.codeIn K cd14 "Board.carried" = true) (k14 : PySem.W.keepIn K (.ref f14) = true)
    (a15 : PySem.W.findIn K (.ref ca0) "things_of" = some (some (.ref f15))) (n15 : PySem.W.isFn K (.ref f15) = true)
    (l15 : K.lookup f15 = some ⟨oc15, od15, .func (PySem.W.fnOf "things_of" "Board.things_of" (defArgs s_Board_things_of) (defBody s_Board_things_of) (defScope s_Board_things_of) .none kV15 dc15 pm15 an15 cd15 ct15), sl15⟩)
    (c15 : PySem.W.codeIn K cd15 "Board.things_of" = true) (k15 : PySem.W.keepIn K (.ref f15) = true)
    (a16 : PySem.W.findIn K (.ref ca1) "__init__" = some (some (.ref f16))) (n16 : PySem.W.isFn K (.ref f16) = true)
    (mk16 : PySem.W.makesIn K ca1 = true) (mq16 : PySem.W.keepIn K (.ref ca1) = true)
    (l16 : K.lookup f16 = some ⟨oc16, od16, .func (PySem.W.fnOf "__init__" "Joint.__init__" (defArgs s_Joint___init__) (defBody s_Joint___init__) (defScope s_Joint___init__) .none (.ref kd16) dc16 pm16 an16 cd16 ct16), sl16⟩)
    (c16 : PySem.W.codeIn K cd16 "Joint.__init__" = true) (k16 : PySem.W.keepIn K (.ref f16) = true)
    (e16 : PySem.W.nsIn K kd16 "cheats" = some (some (.ref kt16))) (ef16 : K.lookup kt16 = some ⟨.type "tuple", td16, .seq #[] tn16, ts16⟩)
    (a17 : PySem.W.findIn K (.ref ca1) "has_other" = some (some (.ref f17))) (n17 : PySem.W.isFn K (.ref f17) = true)
    (l17 : K.lookup f17 = some ⟨oc17, od17, .func (PySem.W.fnOf "has_other" "Joint.has_other" (defArgs s_Joint_has_other) (defBody s_Joint_has_other) (defScope s_Joint_has_other) .none kV17 dc17 pm17 an17 cd17 ct17), sl17⟩)
    (c17 : PySem.W.codeIn K cd17 "Joint.has_other" = true) (k17 : PySem.W.keepIn K (.ref f17) = true)
    (a18 : PySem.W.findIn K (.ref ca1) "sign" = some (some (.ref f18))) (n18 : PySem.W.isFn K (.ref f18) = true)
    (l18 : K.lookup f18 = some ⟨oc18, od18, .func (PySem.W.fnOf "sign" "Joint.sign" (defArgs s_Joint_sign) (defBody s_Joint_sign) (defScope s_Joint_sign) .none kV18 dc18 pm18 an18 cd18 ct18), sl18⟩)
    (c18 : PySem.W.codeIn K cd18 "Joint.sign" = true) (k18 : PySem.W.keepIn K (.ref f18) = true)
    (a19 : PySem.W.findIn K (.ref ca1) "signed" = some (some (.ref f19))) (n19 : PySem.W.isFn K (.ref f19) = true)
    (l19 : K.lookup f19 = some ⟨oc19, od19, .func (PySem.W.fnOf "signed" "Joint.signed" (defArgs s_Joint_signed) (defBody s_Joint_signed) (defScope s_Joint_signed) .none kV19 dc19 pm19 an19 cd19 ct19), sl19⟩)
    (c19 : PySem.W.codeIn K cd19 "Joint.signed" = true) (k19 : PySem.W.keepIn K (.ref f19) = true)
    (a20 : PySem.W.findIn K (.ref ca1) "ready" = some (some (.ref f20))) (n20 : PySem.W.isFn K (.ref f20) = true)
    (l20 : K.lookup f20 = some ⟨oc20, od20, .func (PySem.W.fnOf "ready" "Joint.ready" (defArgs s_Joint_ready) (defBody s_Joint_ready) (defScope s_Joint_ready) .none kV20 dc20 pm20 an20 cd20 ct20), sl20⟩)
    (c20 : PySem.W.codeIn K cd20 "Joint.ready" = true) (k20 : PySem.W.keepIn K (.ref f20) = true)
    (a21 : PySem.W.findIn K (.ref ca1) "is_sure" = some (some (.ref f21))) (n21 : PySem.W.isFn K (.ref f21) = true)
    (l21 : K.lookup f21 = some ⟨oc21, od21, .func (PySem.W.fnOf "is_sure" "Joint.is_sure" (defArgs s_Joint_is_sure) (defBody s_Joint_is_sure) (defScope s_Joint_is_sure) .none kV21 dc21 pm21 an21 cd21 ct21), sl21⟩)
    (c21 : PySem.W.codeIn K cd21 "Joint.is_sure" = true) (k21 : PySem.W.keepIn K (.ref f21) = true)
    (a22 : PySem.W.findIn K (.ref ca1) "two_faced" = some (some (.ref f22))) (n22 : PySem.W.isFn K (.ref f22) = true)
    (l22 : K.lookup f22 = some ⟨oc22, od22, .func (PySem.W.fnOf "two_faced" "Joint.two_faced" (defArgs s_Joint_two_faced) (defBody s_Joint_two_faced) (defScope s_Joint_two_faced) .none kV22 dc22 pm22 an22 cd22 ct22), sl22⟩)
    (c22 : PySem.W.codeIn K cd22 "Joint.two_faced" = true) (k22 : PySem.W.keepIn K (.ref f22) = true)
    (a23 : PySem.W.nsIn K mainGlobals "_law_town" = some (some (.ref f23)))
    (l23 : K.lookup f23 = some ⟨oc23, od23, .func (PySem.W.fnOf "_law_town" "_law_town" (defArgs s__law_town) (defBody s__law_town) (defScope s__law_town) .none kV23 dc23 pm23 an23 cd23 ct23), sl23⟩)
    (c23 : PySem.W.codeIn K cd23 "_law_town" = true) (k23 : PySem.W.keepIn K (.ref f23) = true)
    (a24 : PySem.W.nsIn K mainGlobals "_law_draw" = some (some (.ref f24)))
    (l24 : K.lookup f24 = some ⟨oc24, od24, .func (PySem.W.fnOf "_law_draw" "_law_draw" (defArgs s__law_draw) (defBody s__law_draw) (defScope s__law_draw) .none kV24 dc24 pm24 an24 cd24 ct24), sl24⟩)
    (c24 : PySem.W.codeIn K cd24 "_law_draw" = true) (k24 : PySem.W.keepIn K (.ref f24) = true)
    (a25 : PySem.W.nsIn K mainGlobals "_law_pick" = some (some (.ref f25)))
    (l25 : K.lookup f25 = some ⟨oc25, od25, .func (PySem.W.fnOf "_law_pick" "_law_pick" (defArgs s__law_pick) (defBody s__law_pick) (defScope s__law_pick) .none kV25 dc25 pm25 an25 cd25 ct25), sl25⟩)
    (c25 : PySem.W.codeIn K cd25 "_law_pick" = true) (k25 : PySem.W.keepIn K (.ref f25) = true)
    (a26 : PySem.W.nsIn K mainGlobals "_law_is" = some (some (.ref f26)))
    (l26 : K.lookup f26 = some ⟨oc26, od26, .func (PySem.W.fnOf "_law_is" "_law_is" (defArgs s__law_is) (defBody s__law_is) (defScope s__law_is) .none kV26 dc26 pm26 an26 cd26 ct26), sl26⟩)
    (c26 : PySem.W.codeIn K cd26 "_law_is" = true) (k26 : PySem.W.keepIn K (.ref f26) = true)
    (a27 : PySem.W.nsIn K mainGlobals "_law_some" = some (some (.ref f27)))
    (l27 : K.lookup f27 = some ⟨oc27, od27, .func (PySem.W.fnOf "_law_some" "_law_some" (defArgs s__law_some) (defBody s__law_some) (defScope s__law_some) .none kV27 dc27 pm27 an27 cd27 ct27), sl27⟩)
    (c27 : PySem.W.codeIn K cd27 "_law_some" = true) (k27 : PySem.W.keepIn K (.ref f27) = true)
    (a28 : PySem.W.nsIn K mainGlobals "_law_faces" = some (some (.ref f28)))
    (l28 : K.lookup f28 = some ⟨oc28, od28, .func (PySem.W.fnOf "_law_faces" "_law_faces" (defArgs s__law_faces) (defBody s__law_faces) (defScope s__law_faces) .none kV28 dc28 pm28 an28 cd28 ct28), sl28⟩)
    (c28 : PySem.W.codeIn K cd28 "_law_faces" = true) (k28 : PySem.W.keepIn K (.ref f28) = true)
    (a29 : PySem.W.nsIn K mainGlobals "law" = some (some (.ref f29)))
    (l29 : K.lookup f29 = some ⟨oc29, od29, .func (PySem.W.fnOf "law" "law" (defArgs s_law) (defBody s_law) (defScope s_law) .none kV29 dc29 pm29 an29 cd29 ct29), sl29⟩)
    (c29 : PySem.W.codeIn K cd29 "law" = true) (k29 : PySem.W.keepIn K (.ref f29) = true)
    (hgc0 : PySem.W.nsIn K mainGlobals "MOST_MUCH" = some (some (.int 1000 gt0)))
    (hgc1 : PySem.W.nsIn K mainGlobals "LAST_NUMBER" = some (some (.int 99 gt1)))
    (hgc2 : PySem.W.nsIn K mainGlobals "MOST_OWNERS" = some (some (.int 6 gt2)))
    (hgc3 : PySem.W.nsIn K mainGlobals "MOST_PURSES" = some (some (.int 8 gt3)))
    (z0 : PySem.W.nsIn K mainGlobals "isinstance" = some none)
    (z1 : PySem.W.nsIn K mainGlobals "bool" = some none)
    (z2 : PySem.W.nsIn K mainGlobals "int" = some none)
    (z3 : PySem.W.nsIn K mainGlobals "len" = some none)
    (z4 : PySem.W.nsIn K mainGlobals "tuple" = some none)
    (z5 : PySem.W.nsIn K mainGlobals "sorted" = some none)
    (z6 : PySem.W.nsIn K mainGlobals "list" = some none)
    (z7 : PySem.W.nsIn K mainGlobals "any" = some none)
    (z8 : PySem.W.nsIn K mainGlobals "range" = some none)
    (z9 : PySem.W.nsIn K mainGlobals "set" = some none)
    (z10 : PySem.W.nsIn K mainGlobals "max" = some none) :
    Txt K mg ⟨f0, (PySem.W.fnOf "is_whole" "is_whole" (defArgs s_is_whole) (defBody s_is_whole) (defScope s_is_whole) .none kV0 dc0 pm0 an0 cd0 ct0), f1, (PySem.W.fnOf "is_between" "is_between" (defArgs s_is_between) (defBody s_is_between) (defScope s_is_between) .none kV1 dc1 pm1 an1 cd1 ct1), f2, (PySem.W.fnOf "is_order" "is_order" (defArgs s_is_order) (defBody s_is_order) (defScope s_is_order) .none (.ref kd2) dc2 pm2 an2 cd2 ct2), f3, (PySem.W.fnOf "place_of" "place_of" (defArgs s_place_of) (defBody s_place_of) (defScope s_place_of) .none kV3 dc3 pm3 an3 cd3 ct3), f4, (PySem.W.fnOf "clash" "clash" (defArgs s_clash) (defBody s_clash) (defScope s_clash) .none kV4 dc4 pm4 an4 cd4 ct4), f5, (PySem.W.fnOf "are_rising" "are_rising" (defArgs s_are_rising) (defBody s_are_rising) (defScope s_are_rising) .none kV5 dc5 pm5 an5 cd5 ct5), f6, (PySem.W.fnOf "is_rising_row" "is_rising_row" (defArgs s_is_rising_row) (defBody s_is_rising_row) (defScope s_is_rising_row) .none kV6 dc6 pm6 an6 cd6 ct6), f7, (PySem.W.fnOf "clashing_places" "clashing_places" (defArgs s_clashing_places) (defBody s_clashing_places) (defScope s_clashing_places) .none kV7 dc7 pm7 an7 cd7 ct7), f8, (PySem.W.fnOf "check_owners" "check_owners" (defArgs s_check_owners) (defBody s_check_owners) (defScope s_check_owners) .none kV8 dc8 pm8 an8 cd8 ct8), f9, (PySem.W.fnOf "check_order" "check_order" (defArgs s_check_order) (defBody s_check_order) (defScope s_check_order) .none kV9 dc9 pm9 an9 cd9 ct9), f10, (PySem.W.fnOf "__init__" "Board.__init__" (defArgs s_Board___init__) (defBody s_Board___init__) (defScope s_Board___init__) .none kV10 dc10 pm10 an10 cd10 ct10), f11, (PySem.W.fnOf "houses_for" "Board.houses_for" (defArgs s_Board_houses_for) (defBody s_Board_houses_for) (defScope s_Board_houses_for) .none kV11 dc11 pm11 an11 cd11 ct11), f12, (PySem.W.fnOf "is_carried" "Board.is_carried" (defArgs s_Board_is_carried) (defBody s_Board_is_carried) (defScope s_Board_is_carried) .none kV12 dc12 pm12 an12 cd12 ct12), f13, (PySem.W.fnOf "put" "Board.put" (defArgs s_Board_put) (defBody s_Board_put) (defScope s_Board_put) .none kV13 dc13 pm13 an13 cd13 ct13), f14, (PySem.W.fnOf "carried" "Board.carried" (defArgs s_Board_carried) (defBody s_Board_carried) (defScope s_Board_carried) .none kV14 dc14 pm14 an14 cd14 ct14), f15, (PySem.W.fnOf "things_of" "Board.things_of" (defArgs s_Board_things_of) (defBody s_Board_things_of) (defScope s_Board_things_of) .none kV15 dc15 pm15 an15 cd15 ct15), f16, (PySem.W.fnOf "__init__" "Joint.__init__" (defArgs s_Joint___init__) (defBody s_Joint___init__) (defScope s_Joint___init__) .none (.ref kd16) dc16 pm16 an16 cd16 ct16), f17, (PySem.W.fnOf "has_other" "Joint.has_other" (defArgs s_Joint_has_other) (defBody s_Joint_has_other) (defScope s_Joint_has_other) .none kV17 dc17 pm17 an17 cd17 ct17), f18, (PySem.W.fnOf "sign" "Joint.sign" (defArgs s_Joint_sign) (defBody s_Joint_sign) (defScope s_Joint_sign) .none kV18 dc18 pm18 an18 cd18 ct18), f19, (PySem.W.fnOf "signed" "Joint.signed" (defArgs s_Joint_signed) (defBody s_Joint_signed) (defScope s_Joint_signed) .none kV19 dc19 pm19 an19 cd19 ct19), f20, (PySem.W.fnOf "ready" "Joint.ready" (defArgs s_Joint_ready) (defBody s_Joint_ready) (defScope s_Joint_ready) .none kV20 dc20 pm20 an20 cd20 ct20), f21, (PySem.W.fnOf "is_sure" "Joint.is_sure" (defArgs s_Joint_is_sure) (defBody s_Joint_is_sure) (defScope s_Joint_is_sure) .none kV21 dc21 pm21 an21 cd21 ct21), f22, (PySem.W.fnOf "two_faced" "Joint.two_faced" (defArgs s_Joint_two_faced) (defBody s_Joint_two_faced) (defScope s_Joint_two_faced) .none kV22 dc22 pm22 an22 cd22 ct22), f23, (PySem.W.fnOf "_law_town" "_law_town" (defArgs s__law_town) (defBody s__law_town) (defScope s__law_town) .none kV23 dc23 pm23 an23 cd23 ct23), f24, (PySem.W.fnOf "_law_draw" "_law_draw" (defArgs s__law_draw) (defBody s__law_draw) (defScope s__law_draw) .none kV24 dc24 pm24 an24 cd24 ct24), f25, (PySem.W.fnOf "_law_pick" "_law_pick" (defArgs s__law_pick) (defBody s__law_pick) (defScope s__law_pick) .none kV25 dc25 pm25 an25 cd25 ct25), f26, (PySem.W.fnOf "_law_is" "_law_is" (defArgs s__law_is) (defBody s__law_is) (defScope s__law_is) .none kV26 dc26 pm26 an26 cd26 ct26), f27, (PySem.W.fnOf "_law_some" "_law_some" (defArgs s__law_some) (defBody s__law_some) (defScope s__law_some) .none kV27 dc27 pm27 an27 cd27 ct27), f28, (PySem.W.fnOf "_law_faces" "_law_faces" (defArgs s__law_faces) (defBody s__law_faces) (defScope s__law_faces) .none kV28 dc28 pm28 an28 cd28 ct28), f29, (PySem.W.fnOf "law" "law" (defArgs s_law) (defBody s_law) (defScope s_law) .none kV29 dc29 pm29 an29 cd29 ct29), ca0, ca1⟩ where
  F_is_whole := fun_mk (st := s_is_whole) l0 c0 k0
  m_is_whole := PySem.W.mg_of X G a0
  b_is_whole := (fun_mk (st := s_is_whole) l0 c0 k0).binds (ps := ["thing"]) fun _ _ _ _ _ _ us hl => match us, hl with | [_], _ => rfl
  F_is_between := fun_mk (st := s_is_between) l1 c1 k1
  m_is_between := PySem.W.mg_of X G a1
  b_is_between := (fun_mk (st := s_is_between) l1 c1 k1).binds (ps := ["thing", "low", "high"]) fun _ _ _ _ _ _ us hl => match us, hl with | [_, _, _], _ => rfl
  F_is_order := fun_mk (st := s_is_order) l2 c2 k2
  m_is_order := PySem.W.mg_of X G a2
  bd0_is_order := ⟨_, bd_kw1 e2 rfl rfl rfl rfl rfl rfl rfl (by decide +kernel)⟩
  F_place_of := fun_mk (st := s_place_of) l3 c3 k3
  m_place_of := PySem.W.mg_of X G a3
  b_place_of := (fun_mk (st := s_place_of) l3 c3 k3).binds (ps := ["order"]) fun _ _ _ _ _ _ us hl => match us, hl with | [_], _ => rfl
  F_clash := fun_mk (st := s_clash) l4 c4 k4
  m_clash := PySem.W.mg_of X G a4
  b_clash := (fun_mk (st := s_clash) l4 c4 k4).binds (ps := ["one", "other"]) fun _ _ _ _ _ _ us hl => match us, hl with | [_, _], _ => rfl
  F_are_rising := fun_mk (st := s_are_rising) l5 c5 k5
  m_are_rising := PySem.W.mg_of X G a5
  b_are_rising := (fun_mk (st := s_are_rising) l5 c5 k5).binds (ps := ["things", "bound"]) fun _ _ _ _ _ _ us hl => match us, hl with | [_, _], _ => rfl
  F_is_rising_row := fun_mk (st := s_is_rising_row) l6 c6 k6
  m_is_rising_row := PySem.W.mg_of X G a6
  b_is_rising_row := (fun_mk (st := s_is_rising_row) l6 c6 k6).binds (ps := ["thing", "bound"]) fun _ _ _ _ _ _ us hl => match us, hl with | [_, _], _ => rfl
  F_clashing_places := fun_mk (st := s_clashing_places) l7 c7 k7
  m_clashing_places := PySem.W.mg_of X G a7
  b_clashing_places := (fun_mk (st := s_clashing_places) l7 c7 k7).binds (ps := ["orders"]) fun _ _ _ _ _ _ us hl => match us, hl with | [_], _ => rfl
  F_check_owners := fun_mk (st := s_check_owners) l8 c8 k8
  m_check_owners := PySem.W.mg_of X G a8
  bk0_check_owners := ⟨fun s us ws _ hl => match us, ws, hl with | [_], [_, _], _ => .of_eq rfl, fun {vs us zs ws} r1 r2 => kb_rel12 r1 r2⟩
  F_check_order := fun_mk (st := s_check_order) l9 c9 k9
  m_check_order := PySem.W.mg_of X G a9
  b_check_order := (fun_mk (st := s_check_order) l9 c9 k9).binds (ps := ["order"]) fun _ _ _ _ _ _ us hl => match us, hl with | [_], _ => rfl
  F_Board___init__ := fun_mk (st := s_Board___init__) l10 c10 k10
  mt_Board___init__ := ⟨a10, n10, k10⟩
  mk_Board := ⟨mk10, a10, n10, mq10⟩
  b_Board___init__ := (fun_mk (st := s_Board___init__) l10 c10 k10).binds (ps := ["self", "enough"]) fun _ _ _ _ _ _ us hl => match us, hl with | [_, _], _ => rfl
  F_Board_houses_for := fun_mk (st := s_Board_houses_for) l11 c11 k11
  mt_Board_houses_for := ⟨a11, n11, k11⟩
  b_Board_houses_for := (fun_mk (st := s_Board_houses_for) l11 c11 k11).binds (ps := ["self", "thing"]) fun _ _ _ _ _ _ us hl => match us, hl with | [_, _], _ => rfl
  F_Board_is_carried := fun_mk (st := s_Board_is_carried) l12 c12 k12
  mt_Board_is_carried := ⟨a12, n12, k12⟩
  b_Board_is_carried := (fun_mk (st := s_Board_is_carried) l12 c12 k12).binds (ps := ["self", "thing"]) fun _ _ _ _ _ _ us hl => match us, hl with | [_, _], _ => rfl
  F_Board_put := fun_mk (st := s_Board_put) l13 c13 k13
  mt_Board_put := ⟨a13, n13, k13⟩
  b_Board_put := (fun_mk (st := s_Board_put) l13 c13 k13).binds (ps := ["self", "house", "thing"]) fun _ _ _ _ _ _ us hl => match us, hl with | [_, _, _], _ => rfl
  F_Board_carried := fun_mk (st := s_Board_carried) l14 c14 k14
  mt_Board_carried := ⟨a14, n14, k14⟩
  b_Board_carried := (fun_mk (st := s_Board_carried) l14 c14 k14).binds (ps := ["self"]) fun _ _ _ _ _ _ us hl => match us, hl with | [_], _ => rfl
  F_Board_things_of := fun_mk (st := s_Board_things_of) l15 c15 k15
  mt_Board_things_of := ⟨a15, n15, k15⟩
  b_Board_things_of := (fun_mk (st := s_Board_things_of) l15 c15 k15).binds (ps := ["self", "house"]) fun _ _ _ _ _ _ us hl => match us, hl with | [_, _], _ => rfl
  F_Joint___init__ := fun_mk (st := s_Joint___init__) l16 c16 k16
  mt_Joint___init__ := ⟨a16, n16, k16⟩
  mk_Joint := ⟨mk16, a16, n16, mq16⟩
  bk0_Joint___init__ := ⟨fun s us ws _ hl => match us, ws, hl with | [_, _], [_, _, _], _ => .of_eq rfl, fun {vs us zs ws} r1 r2 => kb_rel23 r1 r2⟩
  bk1_Joint___init__ := ⟨_, bd_kb22d rfl e16 rfl rfl rfl rfl rfl rfl rfl (by decide +kernel) (by decide +kernel) (by decide +kernel) (by decide +kernel) (by decide +kernel) (by decide +kernel) (by decide +kernel) (by decide +kernel) (by decide +kernel) (by decide +kernel), _, _, ef16, rfl, rfl⟩
  F_Joint_has_other := fun_mk (st := s_Joint_has_other) l17 c17 k17
  mt_Joint_has_other := ⟨a17, n17, k17⟩
  b_Joint_has_other := (fun_mk (st := s_Joint_has_other) l17 c17 k17).binds (ps := ["self", "owner", "order"]) fun _ _ _ _ _ _ us hl => match us, hl with | [_, _, _], _ => rfl
  F_Joint_sign := fun_mk (st := s_Joint_sign) l18 c18 k18
  mt_Joint_sign := ⟨a18, n18, k18⟩
  b_Joint_sign := (fun_mk (st := s_Joint_sign) l18 c18 k18).binds (ps := ["self", "owner", "order"]) fun _ _ _ _ _ _ us hl => match us, hl with | [_, _, _], _ => rfl
  F_Joint_signed := fun_mk (st := s_Joint_signed) l19 c19 k19
  mt_Joint_signed := ⟨a19, n19, k19⟩
  b_Joint_signed := (fun_mk (st := s_Joint_signed) l19 c19 k19).binds (ps := ["self", "order"]) fun _ _ _ _ _ _ us hl => match us, hl with | [_, _], _ => rfl
  F_Joint_ready := fun_mk (st := s_Joint_ready) l20 c20 k20
  mt_Joint_ready := ⟨a20, n20, k20⟩
  b_Joint_ready := (fun_mk (st := s_Joint_ready) l20 c20 k20).binds (ps := ["self"]) fun _ _ _ _ _ _ us hl => match us, hl with | [_], _ => rfl
  F_Joint_is_sure := fun_mk (st := s_Joint_is_sure) l21 c21 k21
  mt_Joint_is_sure := ⟨a21, n21, k21⟩
  b_Joint_is_sure := (fun_mk (st := s_Joint_is_sure) l21 c21 k21).binds (ps := ["self"]) fun _ _ _ _ _ _ us hl => match us, hl with | [_], _ => rfl
  F_Joint_two_faced := fun_mk (st := s_Joint_two_faced) l22 c22 k22
  mt_Joint_two_faced := ⟨a22, n22, k22⟩
  b_Joint_two_faced := (fun_mk (st := s_Joint_two_faced) l22 c22 k22).binds (ps := ["self"]) fun _ _ _ _ _ _ us hl => match us, hl with | [_], _ => rfl
  F__law_town := fun_mk (st := s__law_town) l23 c23 k23
  m__law_town := PySem.W.mg_of X G a23
  b__law_town := (fun_mk (st := s__law_town) l23 c23 k23).binds (ps := ["_law_script"]) fun _ _ _ _ _ _ us hl => match us, hl with | [_], _ => rfl
  F__law_draw := fun_mk (st := s__law_draw) l24 c24 k24
  m__law_draw := PySem.W.mg_of X G a24
  b__law_draw := (fun_mk (st := s__law_draw) l24 c24 k24).binds (ps := ["_law_town_here", "_law_many"]) fun _ _ _ _ _ _ us hl => match us, hl with | [_, _], _ => rfl
  F__law_pick := fun_mk (st := s__law_pick) l25 c25 k25
  m__law_pick := PySem.W.mg_of X G a25
  b__law_pick := (fun_mk (st := s__law_pick) l25 c25 k25).binds (ps := ["_law_town_here", "_law_some_here"]) fun _ _ _ _ _ _ us hl => match us, hl with | [_, _], _ => rfl
  F__law_is := fun_mk (st := s__law_is) l26 c26 k26
  m__law_is := PySem.W.mg_of X G a26
  b__law_is := (fun_mk (st := s__law_is) l26 c26 k26).binds (ps := ["_law_told", "_law_due"]) fun _ _ _ _ _ _ us hl => match us, hl with | [_, _], _ => rfl
  F__law_some := fun_mk (st := s__law_some) l27 c27 k27
  m__law_some := PySem.W.mg_of X G a27
  b__law_some := (fun_mk (st := s__law_some) l27 c27 k27).binds (ps := ["_law_town_here", "_law_size", "_law_most"]) fun _ _ _ _ _ _ us hl => match us, hl with | [_, _, _], _ => rfl
  F__law_faces := fun_mk (st := s__law_faces) l28 c28 k28
  m__law_faces := PySem.W.mg_of X G a28
  b__law_faces := (fun_mk (st := s__law_faces) l28 c28 k28).binds (ps := ["_law_signed"]) fun _ _ _ _ _ _ us hl => match us, hl with | [_], _ => rfl
  F_law := fun_mk (st := s_law) l29 c29 k29
  m_law := PySem.W.mg_of X G a29
  b_law := (fun_mk (st := s_law) l29 c29 k29).binds (ps := ["_law_script"]) fun _ _ _ _ _ _ us hl => match us, hl with | [_], _ => rfl
  c_MOST_MUCH := ⟨_, PySem.W.mg_of X G hgc0⟩
  c_LAST_NUMBER := ⟨_, PySem.W.mg_of X G hgc1⟩
  c_MOST_OWNERS := ⟨_, PySem.W.mg_of X G hgc2⟩
  c_MOST_PURSES := ⟨_, PySem.W.mg_of X G hgc3⟩
  m_Board := PySem.W.mg_of X G cm0
  cl_Board := ⟨cg0, ch0, co0, cs0⟩
  na_Board_enough := cn0_0
  na_Board_signers := cn0_1
  m_Joint := PySem.W.mg_of X G cm1
  cl_Joint := ⟨cg1, ch1, co1, cs1⟩
  na_Joint_purse := cn1_0
  na_Joint_owners := cn1_1
  na_Joint_cheating := cn1_2
  na_Joint_board := cn1_3
  n_isinstance := PySem.W.mg_none_of X G z0
  n_bool := PySem.W.mg_none_of X G z1
  n_int := PySem.W.mg_none_of X G z2
  n_len := PySem.W.mg_none_of X G z3
  n_tuple := PySem.W.mg_none_of X G z4
  n_sorted := PySem.W.mg_none_of X G z5
  n_list := PySem.W.mg_none_of X G z6
  n_any := PySem.W.mg_none_of X G z7
  n_range := PySem.W.mg_none_of X G z8
  n_set := PySem.W.mg_none_of X G z9
  n_max := PySem.W.mg_none_of X G z10
theorem all_mk {l : PySem.W.OpenLaw} {w : World} {K : PySem.W.Frag} {h : Heap} {mg : Str → Option Value} {fa : Addr} (X : K.In h) (G : h.Ns mainGlobals mg) (hfa : mg "law" = some (.ref fa))
    {ca0 : Addr}
    {ca1 : Addr}
    {f0 : Addr} {oc0 kV0 dc0 pm0 cd0 ct0 : Value} {od0 an0 : Option Addr} {sl0 : Array (Option Value)}
    {f1 : Addr} {oc1 kV1 dc1 pm1 cd1 ct1 : Value} {od1 an1 : Option Addr} {sl1 : Array (Option Value)}
    {f2 : Addr} {oc2 dc2 pm2 cd2 ct2 : Value} {od2 an2 : Option Addr} {sl2 : Array (Option Value)}
    {kd2 : Addr} {kt2 : Tok}
    {f3 : Addr} {oc3 kV3 dc3 pm3 cd3 ct3 : Value} {od3 an3 : Option Addr} {sl3 : Array (Option Value)}
    {f4 : Addr} {oc4 kV4 dc4 pm4 cd4 ct4 : Value} {od4 an4 : Option Addr} {sl4 : Array (Option Value)}
    {f5 : Addr} {oc5 kV5 dc5 pm5 cd5 ct5 : Value} {od5 an5 : Option Addr} {sl5 : Array (Option Value)}
    {f6 : Addr} {oc6 kV6 dc6 pm6 cd6 ct6 : Value} {od6 an6 : Option Addr} {sl6 : Array (Option Value)}
    {f7 : Addr} {oc7 kV7 dc7 pm7 cd7 ct7 : Value} {od7 an7 : Option Addr} {sl7 : Array (Option Value)}
    {f8 : Addr} {oc8 kV8 dc8 pm8 cd8 ct8 : Value} {od8 an8 : Option Addr} {sl8 : Array (Option Value)}
    {f9 : Addr} {oc9 kV9 dc9 pm9 cd9 ct9 : Value} {od9 an9 : Option Addr} {sl9 : Array (Option Value)}
    {f10 : Addr} {oc10 kV10 dc10 pm10 cd10 ct10 : Value} {od10 an10 : Option Addr} {sl10 : Array (Option Value)}
    {f11 : Addr} {oc11 kV11 dc11 pm11 cd11 ct11 : Value} {od11 an11 : Option Addr} {sl11 : Array (Option Value)}
    {f12 : Addr} {oc12 kV12 dc12 pm12 cd12 ct12 : Value} {od12 an12 : Option Addr} {sl12 : Array (Option Value)}
    {f13 : Addr} {oc13 kV13 dc13 pm13 cd13 ct13 : Value} {od13 an13 : Option Addr} {sl13 : Array (Option Value)}
    {f14 : Addr} {oc14 kV14 dc14 pm14 cd14 ct14 : Value} {od14 an14 : Option Addr} {sl14 : Array (Option Value)}
    {f15 : Addr} {oc15 kV15 dc15 pm15 cd15 ct15 : Value} {od15 an15 : Option Addr} {sl15 : Array (Option Value)}
    {f16 : Addr} {oc16 dc16 pm16 cd16 ct16 : Value} {od16 an16 : Option Addr} {sl16 : Array (Option Value)}
    {kd16 kt16 : Addr} {td16 : Option Addr} {tn16 : Nat} {ts16 : Array (Option Value)}
    {f17 : Addr} {oc17 kV17 dc17 pm17 cd17 ct17 : Value} {od17 an17 : Option Addr} {sl17 : Array (Option Value)}
    {f18 : Addr} {oc18 kV18 dc18 pm18 cd18 ct18 : Value} {od18 an18 : Option Addr} {sl18 : Array (Option Value)}
    {f19 : Addr} {oc19 kV19 dc19 pm19 cd19 ct19 : Value} {od19 an19 : Option Addr} {sl19 : Array (Option Value)}
    {f20 : Addr} {oc20 kV20 dc20 pm20 cd20 ct20 : Value} {od20 an20 : Option Addr} {sl20 : Array (Option Value)}
    {f21 : Addr} {oc21 kV21 dc21 pm21 cd21 ct21 : Value} {od21 an21 : Option Addr} {sl21 : Array (Option Value)}
    {f22 : Addr} {oc22 kV22 dc22 pm22 cd22 ct22 : Value} {od22 an22 : Option Addr} {sl22 : Array (Option Value)}
    {f23 : Addr} {oc23 kV23 dc23 pm23 cd23 ct23 : Value} {od23 an23 : Option Addr} {sl23 : Array (Option Value)}
    {f24 : Addr} {oc24 kV24 dc24 pm24 cd24 ct24 : Value} {od24 an24 : Option Addr} {sl24 : Array (Option Value)}
    {f25 : Addr} {oc25 kV25 dc25 pm25 cd25 ct25 : Value} {od25 an25 : Option Addr} {sl25 : Array (Option Value)}
    {f26 : Addr} {oc26 kV26 dc26 pm26 cd26 ct26 : Value} {od26 an26 : Option Addr} {sl26 : Array (Option Value)}
    {f27 : Addr} {oc27 kV27 dc27 pm27 cd27 ct27 : Value} {od27 an27 : Option Addr} {sl27 : Array (Option Value)}
    {f28 : Addr} {oc28 kV28 dc28 pm28 cd28 ct28 : Value} {od28 an28 : Option Addr} {sl28 : Array (Option Value)}
    {f29 : Addr} {oc29 kV29 dc29 pm29 cd29 ct29 : Value} {od29 an29 : Option Addr} {sl29 : Array (Option Value)}
    {gt0 : Tok}
    {gt1 : Tok}
    {gt2 : Tok}
    {gt3 : Tok}
    (cm0 : PySem.W.nsIn K mainGlobals "Board" = some (some (.ref ca0)))
    (cg0 : PySem.W.plainGet K ca0 Str.empty = true) (ch0 : PySem.W.hasDictIn K ca0 = true) (co0 : PySem.W.plainOver K ca0 = true) (cs0 : PySem.W.findIn K (.ref ca0) "__setattr__" = some (some (.builtin "object.__setattr__")))
    (cn0_0 : PySem.W.findIn K (.ref ca0) "enough" = some none)
    (cn0_1 : PySem.W.findIn K (.ref ca0) "signers" = some none)
    (cm1 : PySem.W.nsIn K mainGlobals "Joint" = some (some (.ref ca1)))
    (cg1 : PySem.W.plainGet K ca1 Str.empty = true) (ch1 : PySem.W.hasDictIn K ca1 = true) (co1 : PySem.W.plainOver K ca1 = true) (cs1 : PySem.W.findIn K (.ref ca1) "__setattr__" = some (some (.builtin "object.__setattr__")))
    (cn1_0 : PySem.W.findIn K (.ref ca1) "purse" = some none)
    (cn1_1 : PySem.W.findIn K (.ref ca1) "owners" = some none)
    (cn1_2 : PySem.W.findIn K (.ref ca1) "cheating" = some none)
    (cn1_3 : PySem.W.findIn K (.ref ca1) "board" = some none)
    (a0 : PySem.W.nsIn K mainGlobals "is_whole" = some (some (.ref f0)))
    (l0 : K.lookup f0 = some ⟨oc0, od0, .func (PySem.W.fnOf "is_whole" "is_whole" (defArgs s_is_whole) (defBody s_is_whole) (defScope s_is_whole) .none kV0 dc0 pm0 an0 cd0 ct0), sl0⟩)
    (c0 : PySem.W.codeIn K cd0 "is_whole" = true) (k0 : PySem.W.keepIn K (.ref f0) = true)
    (a1 : PySem.W.nsIn K mainGlobals "is_between" = some (some (.ref f1)))
    (l1 : K.lookup f1 = some ⟨oc1, od1, .func (PySem.W.fnOf "is_between" "is_between" (defArgs s_is_between) (defBody s_is_between) (defScope s_is_between) .none kV1 dc1 pm1 an1 cd1 ct1), sl1⟩)
    (c1 : PySem.W.codeIn K cd1 "is_between" = true) (k1 : PySem.W.keepIn K (.ref f1) = true)
    (a2 : PySem.W.nsIn K mainGlobals "is_order" = some (some (.ref f2)))
    (l2 : K.lookup f2 = some ⟨oc2, od2, .func (PySem.W.fnOf "is_order" "is_order" (defArgs s_is_order) (defBody s_is_order) (defScope s_is_order) .none (.ref kd2) dc2 pm2 an2 cd2 ct2), sl2⟩)
    (c2 : PySem.W.codeIn K cd2 "is_order" = true) (k2 : PySem.W.keepIn K (.ref f2) = true)
    (e2 : PySem.W.nsIn K kd2 "purses" = some (some (.int 8 kt2)))
    (a3 : PySem.W.nsIn K mainGlobals "place_of" = some (some (.ref f3)))
    (l3 : K.lookup f3 = some ⟨oc3, od3, .func (PySem.W.fnOf "place_of" "place_of" (defArgs s_place_of) (defBody s_place_of) (defScope s_place_of) .none kV3 dc3 pm3 an3 cd3 ct3), sl3⟩)
    (c3 : PySem.W.codeIn K cd3 "place_of" = true) (k3 : PySem.W.keepIn K (.ref f3) = true)
    (a4 : PySem.W.nsIn K mainGlobals "clash" = some (some (.ref f4)))
    (l4 : K.lookup f4 = some ⟨oc4, od4, .func (PySem.W.fnOf "clash" "clash" (defArgs s_clash) (defBody s_clash) (defScope s_clash) .none kV4 dc4 pm4 an4 cd4 ct4), sl4⟩)
    (c4 : PySem.W.codeIn K cd4 "clash" = true) (k4 : PySem.W.keepIn K (.ref f4) = true)
    (a5 : PySem.W.nsIn K mainGlobals "are_rising" = some (some (.ref f5)))
    (l5 : K.lookup f5 = some ⟨oc5, od5, .func (PySem.W.fnOf "are_rising" "are_rising" (defArgs s_are_rising) (defBody s_are_rising) (defScope s_are_rising) .none kV5 dc5 pm5 an5 cd5 ct5), sl5⟩)
    (c5 : PySem.W.codeIn K cd5 "are_rising" = true) (k5 : PySem.W.keepIn K (.ref f5) = true)
    (a6 : PySem.W.nsIn K mainGlobals "is_rising_row" = some (some (.ref f6)))
    (l6 : K.lookup f6 = some ⟨oc6, od6, .func (PySem.W.fnOf "is_rising_row" "is_rising_row" (defArgs s_is_rising_row) (defBody s_is_rising_row) (defScope s_is_rising_row) .none kV6 dc6 pm6 an6 cd6 ct6), sl6⟩)
    (c6 : PySem.W.codeIn K cd6 "is_rising_row" = true) (k6 : PySem.W.keepIn K (.ref f6) = true)
    (a7 : PySem.W.nsIn K mainGlobals "clashing_places" = some (some (.ref f7)))
    (l7 : K.lookup f7 = some ⟨oc7, od7, .func (PySem.W.fnOf "clashing_places" "clashing_places" (defArgs s_clashing_places) (defBody s_clashing_places) (defScope s_clashing_places) .none kV7 dc7 pm7 an7 cd7 ct7), sl7⟩)
    (c7 : PySem.W.codeIn K cd7 "clashing_places" = true) (k7 : PySem.W.keepIn K (.ref f7) = true)
    (a8 : PySem.W.nsIn K mainGlobals "check_owners" = some (some (.ref f8)))
    (l8 : K.lookup f8 = some ⟨oc8, od8, .func (PySem.W.fnOf "check_owners" "check_owners" (defArgs s_check_owners) (defBody s_check_owners) (defScope s_check_owners) .none kV8 dc8 pm8 an8 cd8 ct8), sl8⟩)
    (c8 : PySem.W.codeIn K cd8 "check_owners" = true) (k8 : PySem.W.keepIn K (.ref f8) = true)
    (a9 : PySem.W.nsIn K mainGlobals "check_order" = some (some (.ref f9)))
    (l9 : K.lookup f9 = some ⟨oc9, od9, .func (PySem.W.fnOf "check_order" "check_order" (defArgs s_check_order) (defBody s_check_order) (defScope s_check_order) .none kV9 dc9 pm9 an9 cd9 ct9), sl9⟩)
    (c9 : PySem.W.codeIn K cd9 "check_order" = true) (k9 : PySem.W.keepIn K (.ref f9) = true)
    (a10 : PySem.W.findIn K (.ref ca0) "__init__" = some (some (.ref f10))) (n10 : PySem.W.isFn K (.ref f10) = true)
    (mk10 : PySem.W.makesIn K ca0 = true) (mq10 : PySem.W.keepIn K (.ref ca0) = true)
    (l10 : K.lookup f10 = some ⟨oc10, od10, .func (PySem.W.fnOf "__init__" "Board.__init__" (defArgs s_Board___init__) (defBody s_Board___init__) (defScope s_Board___init__) .none kV10 dc10 pm10 an10 cd10 ct10), sl10⟩)
    (c10 : PySem.W.codeIn K cd10 "Board.__init__" = true) (k10 : PySem.W.keepIn K (.ref f10) = true)
    (a11 : PySem.W.findIn K (.ref ca0) "houses_for" = some (some (.ref f11))) (n11 : PySem.W.isFn K (.ref f11) = true)
    (l11 : K.lookup f11 = some ⟨oc11, od11, .func (PySem.W.fnOf "houses_for" "Board.houses_for" (defArgs s_Board_houses_for) (defBody s_Board_houses_for) (defScope s_Board_houses_for) .none kV11 dc11 pm11 an11 cd11 ct11), sl11⟩)
    (c11 : PySem.W.codeIn K cd11 "Board.houses_for" = true) (k11 : PySem.W.keepIn K (.ref f11) = true)
    (a12 : PySem.W.findIn K (.ref ca0) "is_carried" = some (some (.ref f12))) (n12 : PySem.W.isFn K (.ref f12) = true)
    (l12 : K.lookup f12 = some ⟨oc12, od12, .func (PySem.W.fnOf "is_carried" "Board.is_carried" (defArgs s_Board_is_carried) (defBody s_Board_is_carried) (defScope s_Board_is_carried) .none kV12 dc12 pm12 an12 cd12 ct12), sl12⟩)
    (c12 : PySem.W.codeIn K cd12 "Board.is_carried" = true) (k12 : PySem.W.keepIn K (.ref f12) = true)
    (a13 : PySem.W.findIn K (.ref ca0) "put" = some (some (.ref f13))) (n13 : PySem.W.isFn K (.ref f13) = true)
    (l13 : K.lookup f13 = some ⟨oc13, od13, .func (PySem.W.fnOf "put" "Board.put" (defArgs s_Board_put) (defBody s_Board_put) (defScope s_Board_put) .none kV13 dc13 pm13 an13 cd13 ct13), sl13⟩)
    (c13 : PySem.W.codeIn K cd13 "Board.put" = true) (k13 : PySem.W.keepIn K (.ref f13) = true)
    (a14 : PySem.W.findIn K (.ref ca0) "carried" = some (some (.ref f14))) (n14 : PySem.W.isFn K (.ref f14) = true)
    (l14 : K.lookup f14 = some ⟨oc14, od14, .func (PySem.W.fnOf "carried" "Board.carried" (defArgs s_Board_carried) (defBody s_Board_carried) (defScope s_Board_carried) .none kV14 dc14 pm14 an14 cd14 ct14), sl14⟩)
    (c14 : PySem.W.codeIn K cd14 "Board.carried" = true) (k14 : PySem.W.keepIn K (.ref f14) = true)
    (a15 : PySem.W.findIn K (.ref ca0) "things_of" = some (some (.ref f15))) (n15 : PySem.W.isFn K (.ref f15) = true)
    (l15 : K.lookup f15 = some ⟨oc15, od15, .func (PySem.W.fnOf "things_of" "Board.things_of" (defArgs s_Board_things_of) (defBody s_Board_things_of) (defScope s_Board_things_of) .none kV15 dc15 pm15 an15 cd15 ct15), sl15⟩)
    (c15 : PySem.W.codeIn K cd15 "Board.things_of" = true) (k15 : PySem.W.keepIn K (.ref f15) = true)
    (a16 : PySem.W.findIn K (.ref ca1) "__init__" = some (some (.ref f16))) (n16 : PySem.W.isFn K (.ref f16) = true)
    (mk16 : PySem.W.makesIn K ca1 = true) (mq16 : PySem.W.keepIn K (.ref ca1) = true)
    (l16 : K.lookup f16 = some ⟨oc16, od16, .func (PySem.W.fnOf "__init__" "Joint.__init__" (defArgs s_Joint___init__) (defBody s_Joint___init__) (defScope s_Joint___init__) .none (.ref kd16) dc16 pm16 an16 cd16 ct16), sl16⟩)
    (c16 : PySem.W.codeIn K cd16 "Joint.__init__" = true) (k16 : PySem.W.keepIn K (.ref f16) = true)
    (e16 : PySem.W.nsIn K kd16 "cheats" = some (some (.ref kt16))) (ef16 : K.lookup kt16 = some ⟨.type "tuple", td16, .seq #[] tn16, ts16⟩)
    (a17 : PySem.W.findIn K (.ref ca1) "has_other" = some (some (.ref f17))) (n17 : PySem.W.isFn K (.ref f17) = true)
    (l17 : K.lookup f17 = some ⟨oc17, od17, .func (PySem.W.fnOf "has_other" "Joint.has_other" (defArgs s_Joint_has_other) (defBody s_Joint_has_other) (defScope s_Joint_has_other) .none kV17 dc17 pm17 an17 cd17 ct17), sl17⟩)
    (c17 : PySem.W.codeIn K cd17 "Joint.has_other" = true) (k17 : PySem.W.keepIn K (.ref f17) = true)
    (a18 : PySem.W.findIn K (.ref ca1) "sign" = some (some (.ref f18))) (n18 : PySem.W.isFn K (.ref f18) = true)
    (l18 : K.lookup f18 = some ⟨oc18, od18, .func (PySem.W.fnOf "sign" "Joint.sign" (defArgs s_Joint_sign) (defBody s_Joint_sign) (defScope s_Joint_sign) .none kV18 dc18 pm18 an18 cd18 ct18), sl18⟩)
    (c18 : PySem.W.codeIn K cd18 "Joint.sign" = true) (k18 : PySem.W.keepIn K (.ref f18) = true)
    (a19 : PySem.W.findIn K (.ref ca1) "signed" = some (some (.ref f19))) (n19 : PySem.W.isFn K (.ref f19) = true)
    (l19 : K.lookup f19 = some ⟨oc19, od19, .func (PySem.W.fnOf "signed" "Joint.signed" (defArgs s_Joint_signed) (defBody s_Joint_signed) (defScope s_Joint_signed) .none kV19 dc19 pm19 an19 cd19 ct19), sl19⟩)
    (c19 : PySem.W.codeIn K cd19 "Joint.signed" = true) (k19 : PySem.W.keepIn K (.ref f19) = true)
    (a20 : PySem.W.findIn K (.ref ca1) "ready" = some (some (.ref f20))) (n20 : PySem.W.isFn K (.ref f20) = true)
    (l20 : K.lookup f20 = some ⟨oc20, od20, .func (PySem.W.fnOf "ready" "Joint.ready" (defArgs s_Joint_ready) (defBody s_Joint_ready) (defScope s_Joint_ready) .none kV20 dc20 pm20 an20 cd20 ct20), sl20⟩)
    (c20 : PySem.W.codeIn K cd20 "Joint.ready" = true) (k20 : PySem.W.keepIn K (.ref f20) = true)
    (a21 : PySem.W.findIn K (.ref ca1) "is_sure" = some (some (.ref f21))) (n21 : PySem.W.isFn K (.ref f21) = true)
    (l21 : K.lookup f21 = some ⟨oc21, od21, .func (PySem.W.fnOf "is_sure" "Joint.is_sure" (defArgs s_Joint_is_sure) (defBody s_Joint_is_sure) (defScope s_Joint_is_sure) .none kV21 dc21 pm21 an21 cd21 ct21), sl21⟩)
    (c21 : PySem.W.codeIn K cd21 "Joint.is_sure" = true) (k21 : PySem.W.keepIn K (.ref f21) = true)
    (a22 : PySem.W.findIn K (.ref ca1) "two_faced" = some (some (.ref f22))) (n22 : PySem.W.isFn K (.ref f22) = true)
    (l22 : K.lookup f22 = some ⟨oc22, od22, .func (PySem.W.fnOf "two_faced" "Joint.two_faced" (defArgs s_Joint_two_faced) (defBody s_Joint_two_faced) (defScope s_Joint_two_faced) .none kV22 dc22 pm22 an22 cd22 ct22), sl22⟩)
    (c22 : PySem.W.codeIn K cd22 "Joint.two_faced" = true) (k22 : PySem.W.keepIn K (.ref f22) = true)
    (a23 : PySem.W.nsIn K mainGlobals "_law_town" = some (some (.ref f23)))
    (l23 : K.lookup f23 = some ⟨oc23, od23, .func (PySem.W.fnOf "_law_town" "_law_town" (defArgs s__law_town) (defBody s__law_town) (defScope s__law_town) .none kV23 dc23 pm23 an23 cd23 ct23), sl23⟩)
    (c23 : PySem.W.codeIn K cd23 "_law_town" = true) (k23 : PySem.W.keepIn K (.ref f23) = true)
    (a24 : PySem.W.nsIn K mainGlobals "_law_draw" = some (some (.ref f24)))
    (l24 : K.lookup f24 = some ⟨oc24, od24, .func (PySem.W.fnOf "_law_draw" "_law_draw" (defArgs s__law_draw) (defBody s__law_draw) (defScope s__law_draw) .none kV24 dc24 pm24 an24 cd24 ct24), sl24⟩)
    (c24 : PySem.W.codeIn K cd24 "_law_draw" = true) (k24 : PySem.W.keepIn K (.ref f24) = true)
    (a25 : PySem.W.nsIn K mainGlobals "_law_pick" = some (some (.ref f25)))
    (l25 : K.lookup f25 = some ⟨oc25, od25, .func (PySem.W.fnOf "_law_pick" "_law_pick" (defArgs s__law_pick) (defBody s__law_pick) (defScope s__law_pick) .none kV25 dc25 pm25 an25 cd25 ct25), sl25⟩)
    (c25 : PySem.W.codeIn K cd25 "_law_pick" = true) (k25 : PySem.W.keepIn K (.ref f25) = true)
    (a26 : PySem.W.nsIn K mainGlobals "_law_is" = some (some (.ref f26)))
    (l26 : K.lookup f26 = some ⟨oc26, od26, .func (PySem.W.fnOf "_law_is" "_law_is" (defArgs s__law_is) (defBody s__law_is) (defScope s__law_is) .none kV26 dc26 pm26 an26 cd26 ct26), sl26⟩)
    (c26 : PySem.W.codeIn K cd26 "_law_is" = true) (k26 : PySem.W.keepIn K (.ref f26) = true)
    (a27 : PySem.W.nsIn K mainGlobals "_law_some" = some (some (.ref f27)))
    (l27 : K.lookup f27 = some ⟨oc27, od27, .func (PySem.W.fnOf "_law_some" "_law_some" (defArgs s__law_some) (defBody s__law_some) (defScope s__law_some) .none kV27 dc27 pm27 an27 cd27 ct27), sl27⟩)
    (c27 : PySem.W.codeIn K cd27 "_law_some" = true) (k27 : PySem.W.keepIn K (.ref f27) = true)
    (a28 : PySem.W.nsIn K mainGlobals "_law_faces" = some (some (.ref f28)))
    (l28 : K.lookup f28 = some ⟨oc28, od28, .func (PySem.W.fnOf "_law_faces" "_law_faces" (defArgs s__law_faces) (defBody s__law_faces) (defScope s__law_faces) .none kV28 dc28 pm28 an28 cd28 ct28), sl28⟩)
    (c28 : PySem.W.codeIn K cd28 "_law_faces" = true) (k28 : PySem.W.keepIn K (.ref f28) = true)
    (a29 : PySem.W.nsIn K mainGlobals "law" = some (some (.ref f29)))
    (l29 : K.lookup f29 = some ⟨oc29, od29, .func (PySem.W.fnOf "law" "law" (defArgs s_law) (defBody s_law) (defScope s_law) .none kV29 dc29 pm29 an29 cd29 ct29), sl29⟩)
    (c29 : PySem.W.codeIn K cd29 "law" = true) (k29 : PySem.W.keepIn K (.ref f29) = true)
    (hgc0 : PySem.W.nsIn K mainGlobals "MOST_MUCH" = some (some (.int 1000 gt0)))
    (hgc1 : PySem.W.nsIn K mainGlobals "LAST_NUMBER" = some (some (.int 99 gt1)))
    (hgc2 : PySem.W.nsIn K mainGlobals "MOST_OWNERS" = some (some (.int 6 gt2)))
    (hgc3 : PySem.W.nsIn K mainGlobals "MOST_PURSES" = some (some (.int 8 gt3)))
    (z0 : PySem.W.nsIn K mainGlobals "isinstance" = some none)
    (z1 : PySem.W.nsIn K mainGlobals "bool" = some none)
    (z2 : PySem.W.nsIn K mainGlobals "int" = some none)
    (z3 : PySem.W.nsIn K mainGlobals "len" = some none)
    (z4 : PySem.W.nsIn K mainGlobals "tuple" = some none)
    (z5 : PySem.W.nsIn K mainGlobals "sorted" = some none)
    (z6 : PySem.W.nsIn K mainGlobals "list" = some none)
    (z7 : PySem.W.nsIn K mainGlobals "any" = some none)
    (z8 : PySem.W.nsIn K mainGlobals "range" = some none)
    (z9 : PySem.W.nsIn K mainGlobals "set" = some none)
    (z10 : PySem.W.nsIn K mainGlobals "max" = some none) :
    ∃ fd : FuncData, (∀ (s : Shared) (v : Value), BindsTo s fd ⟨[v], []⟩ [("_law_script", v)]) ∧ ∀ base : Heap, K.In base → base.Ns mainGlobals mg → FnOk l.prog w K mg base CX0 12 fa fd ["_law_script"] (sp_law K) := by
  have T := txt_mk X G cm0 cg0 ch0 co0 cs0 cn0_0 cn0_1 cm1 cg1 ch1 co1 cs1 cn1_0 cn1_1 cn1_2 cn1_3 a0 l0 c0 k0 a1 l1 c1 k1 a2 l2 c2 k2 e2 a3 l3 c3 k3 a4 l4 c4 k4 a5 l5 c5 k5 a6 l6 c6 k6 a7 l7 c7 k7 a8 l8 c8 k8 a9 l9 c9 k9 a10 n10 mk10 mq10 l10 c10 k10 a11 n11 l11 c11 k11 a12 n12 l12 c12 k12 a13 n13 l13 c13 k13 a14 n14 l14 c14 k14 a15 n15 l15 c15 k15 a16 n16 mk16 mq16 l16 c16 k16 e16 ef16 a17 n17 l17 c17 k17 a18 n18 l18 c18 k18 a19 n19 l19 c19 k19 a20 n20 l20 c20 k20 a21 n21 l21 c21 k21 a22 n22 l22 c22 k22 a23 l23 c23 k23 a24 l24 c24 k24 a25 l25 c25 k25 a26 l26 c26 k26 a27 l27 c27 k27 a28 l28 c28 k28 a29 l29 c29 k29 hgc0 hgc1 hgc2 hgc3 z0 z1 z2 z3 z4 z5 z6 z7 z8 z9 z10
  have e := hfa.symm.trans T.m_law
  cases e
  exact ⟨_, fun s v => .of_eq rfl, fun base _ _ => ok_law T⟩
end M
/-! The hand-in's compiled file may not be greater than 64 MB. The head makes, beside the heaps and trees that it writes out, second ones that this proof doesn't use, and proofs that grow with the square of their objects; these names, taken ahead, keep it from that. -/
def PySem.W.Fast.tw9391334503791056852 : Unit := ()
def PySem.W.Fast.tw12692383164877698062 : Unit := ()
def PySem.W.Fast.tw11720356013940284721 : Unit := ()
def PySem.W.Fast.tw13483645886494637914 : Unit := ()
def PySem.W.Fast.tw123419515580257056 : Unit := ()
def PySem.W.Fast.tw4317538155832480169 : Unit := ()
def PySem.W.Fast.tw12241993158085412514 : Unit := ()
def PySem.W.Fast.tw15548521096157647348 : Unit := ()
def PySem.W.Fast.tw15919081322799553767 : Unit := ()
def PySem.W.Fast.tw17154910195977381468 : Unit := ()
def PySem.W.Fast.tw9286902730633074294 : Unit := ()
open PySem PySem.W PyProof.Rows
set_option maxRecDepth 100000 in
set_option maxHeartbeats 0 in
theorem PySem.Challenge.cw_manypurses_k22_whole_joints_holds : PySem.Challenge.rw_manypurses_k22_whole_joints.Holds := by
  w_on; o_law; k_head; (case hw => w_witness2)
  k_fill
  refine L2.walk_ofK (l := PySem.Challenge.rw_manypurses_k22_whole_joints) (n := 63) (k := 12) (x := "_law_script") (CX := L2.CX0) (sp := M.sp_law) rfl (by decide) rfl ⟨rfl, by decide, by decide⟩ (fun w h Y => PySem.W.kIn_of Y) ?F ?S ?C
  case F =>
    intro w mg fa h KX G hmg
    refine' M.all_mk KX G hmg ?cm0 ?cg0 ?ch0 ?co0 ?cs0 ?cn0_0 ?cn0_1 ?cm1 ?cg1 ?ch1 ?co1 ?cs1 ?cn1_0 ?cn1_1 ?cn1_2 ?cn1_3 ?a0 ?l0 ?c0 ?k0 ?a1 ?l1 ?c1 ?k1 ?a2 ?l2 ?c2 ?k2 ?e2 ?a3 ?l3 ?c3 ?k3 ?a4 ?l4 ?c4 ?k4 ?a5 ?l5 ?c5 ?k5 ?a6 ?l6 ?c6 ?k6 ?a7 ?l7 ?c7 ?k7 ?a8 ?l8 ?c8 ?k8 ?a9 ?l9 ?c9 ?k9 ?a10 ?n10 ?mk10 ?mq10 ?l10 ?c10 ?k10 ?a11 ?n11 ?l11 ?c11 ?k11 ?a12 ?n12 ?l12 ?c12 ?k12 ?a13 ?n13 ?l13 ?c13 ?k13 ?a14 ?n14 ?l14 ?c14 ?k14 ?a15 ?n15 ?l15 ?c15 ?k15 ?a16 ?n16 ?mk16 ?mq16 ?l16 ?c16 ?k16 ?e16 ?ef16 ?a17 ?n17 ?l17 ?c17 ?k17 ?a18 ?n18 ?l18 ?c18 ?k18 ?a19 ?n19 ?l19 ?c19 ?k19 ?a20 ?n20 ?l20 ?c20 ?k20 ?a21 ?n21 ?l21 ?c21 ?k21 ?a22 ?n22 ?l22 ?c22 ?k22 ?a23 ?l23 ?c23 ?k23 ?a24 ?l24 ?c24 ?k24 ?a25 ?l25 ?c25 ?k25 ?a26 ?l26 ?c26 ?k26 ?a27 ?l27 ?c27 ?k27 ?a28 ?l28 ?c28 ?k28 ?a29 ?l29 ?c29 ?k29 ?hgc0 ?hgc1 ?hgc2 ?hgc3 ?z0 ?z1 ?z2 ?z3 ?z4 ?z5 ?z6 ?z7 ?z8 ?z9 ?z10
    (case cm0 => k_is)
    (case cg0 => k_is)
    (case ch0 => k_is)
    (case co0 => k_is)
    (case cs0 => k_is)
    (case cn0_0 => k_is)
    (case cn0_1 => k_is)
    (case cm1 => k_is)
    (case cg1 => k_is)
    (case ch1 => k_is)
    (case co1 => k_is)
    (case cs1 => k_is)
    (case cn1_0 => k_is)
    (case cn1_1 => k_is)
    (case cn1_2 => k_is)
    (case cn1_3 => k_is)
    (case a0 => k_is)
    (case l0 => k_is)
    (case c0 => k_is)
    (case k0 => k_is)
    (case a1 => k_is)
    (case l1 => k_is)
    (case c1 => k_is)
    (case k1 => k_is)
    (case a2 => k_is)
    (case l2 => k_is)
    (case c2 => k_is)
    (case k2 => k_is)
    (case e2 => k_is)
    (case a3 => k_is)
    (case l3 => k_is)
    (case c3 => k_is)
    (case k3 => k_is)
    (case a4 => k_is)
    (case l4 => k_is)
    (case c4 => k_is)
    (case k4 => k_is)
    (case a5 => k_is)
    (case l5 => k_is)
    (case c5 => k_is)
    (case k5 => k_is)
    (case a6 => k_is)
    (case l6 => k_is)
    (case c6 => k_is)
    (case k6 => k_is)
    (case a7 => k_is)
    (case l7 => k_is)
    (case c7 => k_is)
    (case k7 => k_is)
    (case a8 => k_is)
    (case l8 => k_is)
    (case c8 => k_is)
    (case k8 => k_is)
    (case a9 => k_is)
    (case l9 => k_is)
    (case c9 => k_is)
    (case k9 => k_is)
    (case a10 => k_is)
    (case n10 => k_is)
    (case mk10 => k_is)
    (case mq10 => k_is)
    (case l10 => k_is)
    (case c10 => k_is)
    (case k10 => k_is)
    (case a11 => k_is)
    (case n11 => k_is)
    (case l11 => k_is)
    (case c11 => k_is)
    (case k11 => k_is)
    (case a12 => k_is)
    (case n12 => k_is)
    (case l12 => k_is)
    (case c12 => k_is)
    (case k12 => k_is)
    (case a13 => k_is)
    (case n13 => k_is)
    (case l13 => k_is)
    (case c13 => k_is)
    (case k13 => k_is)
    (case a14 => k_is)
    (case n14 => k_is)
    (case l14 => k_is)
    (case c14 => k_is)
    (case k14 => k_is)
    (case a15 => k_is)
    (case n15 => k_is)
    (case l15 => k_is)
    (case c15 => k_is)
    (case k15 => k_is)
    (case a16 => k_is)
    (case n16 => k_is)
    (case mk16 => k_is)
    (case mq16 => k_is)
    (case l16 => k_is)
    (case c16 => k_is)
    (case k16 => k_is)
    (case e16 => k_is)
    (case ef16 => k_is)
    (case a17 => k_is)
    (case n17 => k_is)
    (case l17 => k_is)
    (case c17 => k_is)
    (case k17 => k_is)
    (case a18 => k_is)
    (case n18 => k_is)
    (case l18 => k_is)
    (case c18 => k_is)
    (case k18 => k_is)
    (case a19 => k_is)
    (case n19 => k_is)
    (case l19 => k_is)
    (case c19 => k_is)
    (case k19 => k_is)
    (case a20 => k_is)
    (case n20 => k_is)
    (case l20 => k_is)
    (case c20 => k_is)
    (case k20 => k_is)
    (case a21 => k_is)
    (case n21 => k_is)
    (case l21 => k_is)
    (case c21 => k_is)
    (case k21 => k_is)
    (case a22 => k_is)
    (case n22 => k_is)
    (case l22 => k_is)
    (case c22 => k_is)
    (case k22 => k_is)
    (case a23 => k_is)
    (case l23 => k_is)
    (case c23 => k_is)
    (case k23 => k_is)
    (case a24 => k_is)
    (case l24 => k_is)
    (case c24 => k_is)
    (case k24 => k_is)
    (case a25 => k_is)
    (case l25 => k_is)
    (case c25 => k_is)
    (case k25 => k_is)
    (case a26 => k_is)
    (case l26 => k_is)
    (case c26 => k_is)
    (case k26 => k_is)
    (case a27 => k_is)
    (case l27 => k_is)
    (case c27 => k_is)
    (case k27 => k_is)
    (case a28 => k_is)
    (case l28 => k_is)
    (case c28 => k_is)
    (case k28 => k_is)
    (case a29 => k_is)
    (case l29 => k_is)
    (case c29 => k_is)
    (case k29 => k_is)
    (case hgc0 => k_is)
    (case hgc1 => k_is)
    (case hgc2 => k_is)
    (case hgc3 => k_is)
    (case z0 => k_is)
    (case z1 => k_is)
    (case z2 => k_is)
    (case z3 => k_is)
    (case z4 => k_is)
    (case z5 => k_is)
    (case z6 => k_is)
    (case z7 => k_is)
    (case z8 => k_is)
    (case z9 => k_is)
    (case z10 => k_is)
  case S => exact fun K H a ns hl _ hS => ⟨a, ns, rfl, hS, hl, fun _ => rfl⟩
  case C => exact fun _ _ _ _ z => z
