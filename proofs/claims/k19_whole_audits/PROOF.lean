

import PyProof.Rows.All
import Wide.All
import OpenK.AllK
import Wide.FinOn
import Lean
import PyProof.EqAt
import PyProof.EqKinds
import PyProof.TupleCall
import PyProof.NeKinds
import PySem.Challenge.RW_manypurses_k19_whole_audits
set_option Elab.async false
set_option linter.all false
set_option maxRecDepth 100000
/-! THE HAND LAYER, for ints, bools, texts, own classes, LISTS and tuples (index, slices, in, append, pop ..), calls, loops. Paste it whole ahead of your own text; what your proof does not reach may be deleted. -/
namespace L2
open PySem PySem.Spec PyProof.Rows

/-- a key: an int or a str -/
abbrev Key := Sum Int Str
def keyIs : Key → Value → Bool
  | .inl k, v => Value.isInt k v
  | .inr x, v => Value.isStrOf x v
def keyH (w : World) : Key → Int
  | .inl k => hashInt k
  | .inr x => hashStr w x
theorem keyIs_shape : ∀ {k : Key} {v : Value}, keyIs k v = true → (∃ i t, k = Sum.inl i ∧ v = Value.int i t) ∨ (∃ x t, k = Sum.inr x ∧ v = Value.str x t)
  | .inl i, v, h => by
    obtain ⟨t, e⟩ := Value.isInt_shape (k := i) (v := v) h
    exact .inl ⟨i, t, rfl, e⟩
  | .inr x, v, h => by
    obtain ⟨t, e⟩ := Value.isStrOf_shape (x := x) (v := v) h
    exact .inr ⟨x, t, rfl, e⟩
theorem keyIs_int (i : Int) (t : Tok) : keyIs (.inl i) (.int i t) = true := by simp [keyIs, Value.isInt]
theorem keyIs_str (x : Str) (t : Tok) : keyIs (.inr x) (.str x t) = true := by simp [keyIs, Value.isStrOf]
theorem key_ll (a b : Int) : decide ((Sum.inl a : Key) = Sum.inl b) = (a == b) := by
  by_cases e : a = b
  · subst e; simp
  · have h : ¬ (Sum.inl a : Key) = Sum.inl b := fun q => e (Sum.inl.inj q)
    rw [decide_eq_false h]
    exact (beq_eq_false_iff_ne.mpr e).symm
theorem key_rr (a b : Str) : decide ((Sum.inr a : Key) = Sum.inr b) = decide (a = b) := by
  by_cases e : a = b
  · subst e; simp
  · have h : ¬ (Sum.inr a : Key) = Sum.inr b := fun q => e (Sum.inr.inj q)
    rw [decide_eq_false h, decide_eq_false e]
theorem key_lr (a : Int) (b : Str) : decide ((Sum.inl a : Key) = Sum.inr b) = false := decide_eq_false (fun q => nomatch q)
theorem key_rl (a : Str) (b : Int) : decide ((Sum.inr a : Key) = Sum.inl b) = false := decide_eq_false (fun q => nomatch q)

def mixKind (prog : Program) (w : World) : PySem.KeyKind prog w Key where
  is := keyIs
  hash := keyH w
  inj := fun v a b ha hb => by
    rcases keyIs_shape ha with ⟨i, t, rfl, rfl⟩ | ⟨x, t, rfl, rfl⟩
    · rcases keyIs_shape hb with ⟨j, u, rfl, e⟩ | ⟨y, u, rfl, e⟩
      · injection e with e1 _; rw [e1]
      · exact nomatch e
    · rcases keyIs_shape hb with ⟨j, u, rfl, e⟩ | ⟨y, u, rfl, e⟩
      · exact nomatch e
      · injection e with e1 _; rw [e1]
  byValue := fun k v h => by
    rcases keyIs_shape h with ⟨i, t, rfl, rfl⟩ | ⟨x, t, rfl, rfl⟩ <;> rfl
  pyHash := fun hv h => by
    rcases keyIs_shape hv with ⟨i, t, rfl, rfl⟩ | ⟨x, t, rfl, rfl⟩
    · exact wpAny_pyHash_int h
    · exact wpAny_pyHash_str h
  eqBool := fun hu hv h => by
    rcases keyIs_shape hu with ⟨i, t, rfl, rfl⟩ | ⟨x, t, rfl, rfl⟩
    · rcases keyIs_shape hv with ⟨j, u, rfl, rfl⟩ | ⟨y, u, rfl, rfl⟩
      · rw [key_ll] at h; exact wpAny_eqBool_int h
      · rw [key_lr] at h; exact SeqAt.EqAt.int_str i t y u _ _ _ _ h
    · rcases keyIs_shape hv with ⟨j, u, rfl, rfl⟩ | ⟨y, u, rfl, rfl⟩
      · rw [key_rl] at h; exact SeqAt.EqAt.str_int x t j u _ _ _ _ h
      · rw [key_rr] at h; exact wpAny_eqBool_str h
  «strs» := fun k x t v h => by
    rcases keyIs_shape h with ⟨i, u, rfl, e⟩ | ⟨y, u, rfl, e⟩
    · exact nomatch e
    · injection e with e1 _
      subst e1
      cases v <;> rfl

theorem mixKind_int (prog : Program) (w : World) (i : Int) (t : Tok) : (mixKind prog w).is (.inl i) (.int i t) = true := keyIs_int i t
theorem mixKind_str (prog : Program) (w : World) (x : Str) (t : Tok) : (mixKind prog w).is (.inr x) (.str x t) = true := keyIs_str x t
end L2

namespace L2
open PySem PySem.Spec PyProof.Rows

/-- a value, without the heap -/
inductive V where
  | non | bl (b : Bool) | int (i : Int) | str (x : Str) | byt (b : Array UInt8) | flt (b : UInt64) | ref (a : Addr) | ty (n : String)
  deriving DecidableEq

def RelV : V → Value → Prop
  | .non, u => u = Value.none
  | .bl b, u => u = Value.bool b
  | .int i, u => ∃ t, u = Value.int i t
  | .str x, u => ∃ t, u = Value.str x t
  | .byt b, u => ∃ t, u = Value.bytes b t
  | .flt b, u => ∃ t, u = Value.float b t
  | .ref a, u => u = Value.ref a
  | .ty n, u => u = Value.type n

abbrev Vals : List V → List Value → Prop := Paired RelV
theorem Vals.length {xs : List V} {us : List Value} (r : Vals xs us) : xs.length = us.length := Paired.length r
theorem Vals.get : ∀ {xs : List V} {us : List Value} {i : Nat} {x : V}, Vals xs us → xs[i]? = some x → ∃ u, us[i]? = some u ∧ RelV x u
  | _, _, _, _, .nil, e => by simp at e
  | _, _, 0, _, .cons r _, e => by simp at e; subst e; exact ⟨_, rfl, r⟩
  | _, _, i + 1, x, .cons _ t, e => by
    obtain ⟨u, h1, h2⟩ := Vals.get (i := i) (x := x) t (by simpa using e)
    exact ⟨u, by simpa using h1, h2⟩
theorem Vals.set {x : V} {u : Value} (r : RelV x u) : ∀ {xs : List V} {us : List Value} (i : Nat), Vals xs us → Vals (xs.set i x) (us.set i u)
  | _, _, _, .nil => .nil
  | _, _, 0, .cons _ t => .cons r t
  | _, _, i + 1, .cons q t => .cons q (Vals.set r i t)
theorem Vals.append : ∀ {xs ys : List V} {us ws : List Value}, Vals xs us → Vals ys ws → Vals (xs ++ ys) (us ++ ws)
  | _, _, _, _, .nil, s => s
  | _, _, _, _, .cons r t, s => .cons r (Vals.append t s)
theorem Vals.take : ∀ {xs : List V} {us : List Value} (n : Nat), Vals xs us → Vals (xs.take n) (us.take n)
  | _, _, 0, _ => .nil
  | _, _, _ + 1, .nil => .nil
  | _, _, n + 1, .cons r t => .cons r (Vals.take n t)
theorem Vals.drop : ∀ {xs : List V} {us : List Value} (n : Nat), Vals xs us → Vals (xs.drop n) (us.drop n)
  | _, _, 0, r => r
  | _, _, _ + 1, .nil => .nil
  | _, _, n + 1, .cons _ t => Vals.drop n t
theorem Vals.none_of : ∀ {xs : List V} {us : List Value} {i : Nat}, Vals xs us → xs[i]? = none → us[i]? = none := fun {xs us i} r e => by
  have h1 := r.length
  have h2 : xs.length ≤ i := List.getElem?_eq_none_iff.mp e
  exact List.getElem?_eq_none_iff.mpr (by omega)

def RelO : Option V → Option Value → Prop
  | some v, some u => RelV v u
  | none, none => True
  | _, _ => False
def KV {κ : Type} : List (κ × V) → List (κ × Value) → Prop := Paired fun (p : κ × V) (q : κ × Value) => p.1 = q.1 ∧ RelV p.2 q.2

/-- a key of a dict (00_mix): an int or a text -/
def kV : Key → V
  | .inl i => .int i
  | .inr x => .str x

/-- what stands at a tracked address -/
inductive HO where
  /-- a list -/
  | lst (xs : List V)
  /-- a tuple (never changes) -/
  | tup (xs : List V)
  /-- a dict whose keys are ints and texts; one whose keys are tuples of ints and texts (the empty one is both) -/
  | dK (kvs : List (Key × V)) | dT (kvs : List (List Key × V))
  /-- a set of ints: its members, its size -/
  | set (S : Int → Bool) (n : Nat)
  /-- an instance of the class at C, its dict at dx, its attributes -/
  | ins (C dx : Addr) (fs : List (Str × V))
  /-- the dict of the instance at x -/
  | own (x : Addr)
  /-- the dict of an exception -/
  | xd (fs : List (Str × V))
  /-- a bound method, f of x -/
  | met (f x : Addr)
  /-- a range object lo, lo + 1, .. below hi -/
  | rng (lo hi : Int)
  /-- a thing that is known to the object (the script; a dict while a loop walks it): read, never written while it is so -/
  | frz (o : Obj) (u : HO)
  /-- a code object's table -/
  | tbl (ps : Array Value)
  /-- any other thing, by what is true of its one object (a def of one's own: SetO a S n := HO.ext fun h => ..) -/
  | ext (φ : Heap → Prop)

abbrev Hp := Addr → Option HO
def upd (H : Hp) (a : Addr) (o : HO) : Hp := fun b => if b = a then some o else H b
theorem upd_same {H : Hp} {a : Addr} {o : HO} : upd H a o a = some o := by unfold upd; rw [if_pos rfl]
theorem upd_ne {H : Hp} {a b : Addr} {o : HO} (h : b ≠ a) : upd H a o b = H b := by unfold upd; rw [if_neg h]
theorem upd_upd {H : Hp} {a : Addr} {o u : HO} : upd (upd H a o) a u = upd H a u := by
  funext b; unfold upd; split <;> rfl
/-- two objects of different content stand apart -/
theorem ne_of {H : Hp} {a b : Addr} {o u : HO} (h : H a = some o) (h' : H b = some u) (d : o ≠ u) : a ≠ b := by
  intro e; subst e; rw [h] at h'; exact d (Option.some.inj h')
theorem ne_of_none {H : Hp} {a b : Addr} {o : HO} (h : H a = some o) (h' : H b = none) : a ≠ b := by
  intro e; subst e; rw [h] at h'; cases h'

section
variable (P : Program) (w : World)
def ObjOk (H : Hp) (h : Heap) (a : Addr) : HO → Prop
  | .lst xs => xs.length ≤ sizeLine ∧ ∃ (its : List Value) (n : Nat), Vals xs its ∧ h.get? a = some { cls := .type "list", data := .seq its.toArray n }
  | .tup xs => xs.length ≤ sizeLine ∧ ∃ its : List Value, Vals xs its ∧ IsTup h a its.toArray
  | .dK kvs => kvs.length ≤ sizeLine ∧ (a == sysModules) = false ∧ ∃ vs, KV kvs vs ∧ h.DictOf (mixKind P w) a vs
  | .dT kvs => kvs.length ≤ sizeLine ∧ (a == sysModules) = false ∧ ∃ xs : List (List Key × Addr × Value),
      Paired (fun (p : List Key × V) (q : List Key × Addr × Value) => p.1 = q.1 ∧ H q.2.1 = some (.tup (p.1.map kV)) ∧ RelV p.2 q.2.2) kvs xs ∧
      ∃ o es ep, h.get? a = some o ∧ o.ExactDict ∧ o.data = .dict es ep ∧ es.toList = xs.map (entryOfKey (tupleKind (mixKind P w))) ∧ (xs.map (·.1)).Nodup
  | .set S n => h.SetOf (intKind P w) a S n
  | .ins C dx fs => H dx = some (.own a) ∧ fs.length ≤ 1000 ∧ dx ≠ a ∧ h.get? a = some (PySem.W.instObj C dx) ∧
      ∃ mA, h.Ns1 dx mA ∧ (∀ f, RelO (fs.lookup f) (mA f)) ∧ PySem.Within mA (fs.map (·.1))
  | .own _ => ∃ o, h.get? a = some o
  | .xd fs => ∃ mA, h.Ns1 a mA ∧ ∀ f, RelO (fs.lookup f) (mA f)
  | .rng lo hi => ∃ t u v, h.get? a = some { cls := .type "range", data := .fields #[.int lo t, .int hi u, .int 1 v] }
  | .frz o u => h.get? a = some o ∧ ObjOk H h a u
  | .tbl ps => h.get? a = some { cls := .none, data := .fields ps }
  | .met f x => h.get? a = some (PySem.W.methodObj (.ref f) (.ref x))
  | .ext φ => φ h ∧ (∃ o, h.get? a = some o) ∧ ∀ h1 h2 : Heap, φ h1 → (∀ o, h1.get? a = some o → h2.get? a = some o) → φ h2
/-- the abstract heap is held -/
def HOk (H : Hp) (h : Heap) : Prop := ∀ a o, H a = some o → ObjOk P w H h a o
end

section
variable {P : Program} {w : World} {H H' : Hp} {h h' : Heap} {a : Addr} {o : HO}
theorem ObjOk.lt (x : ObjOk P w H h a o) : a < h.objs.size := by
  cases o with
  | lst xs => obtain ⟨_, _, _, _, e⟩ := x; exact Heap.lt_size e
  | tup xs => obtain ⟨_, _, _, p⟩ := x; exact p.lt
  | dK kvs => obtain ⟨_, _, _, _, o, _, _, e, _⟩ := x; exact Heap.lt_size e
  | dT kvs => obtain ⟨_, _, _, _, o, _, _, e, _⟩ := x; exact Heap.lt_size e
  | set S n => obtain ⟨o, _, _, _, e, _⟩ := x; exact Heap.lt_size e
  | ins C dx fs => obtain ⟨_, _, _, e, _⟩ := x; exact Heap.lt_size e
  | own y => obtain ⟨_, e⟩ := x; exact Heap.lt_size e
  | xd fs => obtain ⟨_, ⟨_, _, _, e, _⟩, _⟩ := x; exact Heap.lt_size e
  | rng lo hi => obtain ⟨_, _, _, e⟩ := x; exact Heap.lt_size e
  | frz ob u => obtain ⟨e, _⟩ := x; exact Heap.lt_size e
  | tbl ps => exact Heap.lt_size (show h.get? a = some _ from x)
  | met f y => exact Heap.lt_size (show h.get? a = some _ from x)
  | ext φ => obtain ⟨_, ⟨_, e⟩, _⟩ := x; exact Heap.lt_size e
theorem Paired.mapP {α β : Type} {F G : α → β → Prop} : ∀ {l₁ : List α} {l₂ : List β}, Paired F l₁ l₂ → (∀ a b, F a b → G a b) → Paired G l₁ l₂
  | _, _, .nil, _ => .nil
  | _, _, .cons r t, f => .cons (f _ _ r) (Paired.mapP t f)
/-- what an object's description leans on: its own object, its own dict, the tuples -/
theorem ObjOk.stay (x : ObjOk P w H h a o) (k : ∀ b u, (b = a ∨ H b = some (.own a)) → h.get? b = some u → h'.get? b = some u)
    (ho : ∀ b, H b = some (.own a) → H' b = some (.own a)) (ht : ∀ b xs, H b = some (.tup xs) → H' b = some (.tup xs)) : ObjOk P w H' h' a o := by
  induction o with
  | lst xs => obtain ⟨z, its, n, r, e⟩ := x; exact ⟨z, its, n, r, k _ _ (.inl rfl) e⟩
  | tup xs => obtain ⟨z, its, r, ob, e, c⟩ := x; exact ⟨z, its, r, ob, k _ _ (.inl rfl) e, c⟩
  | dK kvs => obtain ⟨z, y, vs, r, ob, es, ep, e, c⟩ := x; exact ⟨z, y, vs, r, ob, es, ep, k _ _ (.inl rfl) e, c⟩
  | dT kvs =>
    obtain ⟨z, y, xs, r, ob, es, ep, e, c⟩ := x
    exact ⟨z, y, xs, Paired.mapP r fun p q z => ⟨z.1, ht _ _ z.2.1, z.2.2⟩, ob, es, ep, k _ _ (.inl rfl) e, c⟩
  | set S n => obtain ⟨ob, es, ep, t, e, c⟩ := x; exact ⟨ob, es, ep, t, k _ _ (.inl rfl) e, c⟩
  | ins C dx fs =>
    obtain ⟨d, z, ne, e, mA, ⟨od, es, ep, e2, c⟩, r⟩ := x
    exact ⟨ho _ d, z, ne, k _ _ (.inl rfl) e, mA, ⟨od, es, ep, k _ _ (.inr d) e2, c⟩, r⟩
  | own y => obtain ⟨ob, e⟩ := x; exact ⟨ob, k _ _ (.inl rfl) e⟩
  | xd fs => obtain ⟨mA, ⟨od, es, ep, e, c⟩, r⟩ := x; exact ⟨mA, ⟨od, es, ep, k _ _ (.inl rfl) e, c⟩, r⟩
  | rng lo hi => obtain ⟨t, u, v, e⟩ := x; exact ⟨t, u, v, k _ _ (.inl rfl) e⟩
  | frz ob u ih => obtain ⟨e, q⟩ := x; exact ⟨k _ _ (.inl rfl) e, ih q⟩
  | tbl ps =>
    have e : h.get? a = some { cls := .none, data := .fields ps } := x
    show h'.get? a = some { cls := .none, data := .fields ps }
    exact k a _ (.inl rfl) e
  | met f y =>
    have e : h.get? a = some (PySem.W.methodObj (.ref f) (.ref y)) := x
    show h'.get? a = some (PySem.W.methodObj (.ref f) (.ref y))
    exact k a _ (.inl rfl) e
  | ext φ => obtain ⟨p, ⟨o, e⟩, st⟩ := x; exact ⟨st _ _ p fun o q => k _ _ (.inl rfl) q, ⟨o, k _ _ (.inl rfl) e⟩, st⟩
theorem HOk.lt (x : HOk P w H h) (e : H a = some o) : a < h.objs.size := (x a o e).lt
theorem HOk.fresh (x : HOk P w H h) (e : h.objs.size ≤ a) : H a = none := by
  cases q : H a with
  | none => rfl
  | some u => exact absurd (Nat.lt_of_lt_of_le (x.lt q) e) (Nat.lt_irrefl _)
/-- every object of the heap is kept -/
theorem HOk.kept (x : HOk P w H h) (k : ∀ b u, h.get? b = some u → h'.get? b = some u) : HOk P w H h' := fun a o e =>
  (x a o e).stay (fun b u _ q => k b u q) (fun _ q => q) fun _ _ q => q
/-- a new object is laid and tracked -/
theorem HOk.laid (x : HOk P w H h) (k : ∀ b u, h.get? b = some u → h'.get? b = some u) (hp : h.objs.size ≤ a) (new : ObjOk P w (upd H a o) h' a o) : HOk P w (upd H a o) h' := fun b u e => by
  have hn := x.fresh hp
  by_cases hb : b = a
  · subst hb; rw [upd_same] at e; cases e; exact new
  · rw [upd_ne hb] at e
    exact (x b u e).stay (fun c v _ q => k c v q) (fun c q => by rw [upd_ne (ne_of_none q hn)]; exact q) fun c xs q => by rw [upd_ne (ne_of_none q hn)]; exact q
end

/-- what may be read as u: it is u, or a known u -/
def Rd (H : Hp) (a : Addr) (u : HO) : Prop := H a = some u ∨ ∃ o, H a = some (.frz o u)
theorem Rd.of {H : Hp} {a : Addr} {u : HO} (h : H a = some u) : Rd H a u := .inl h
theorem Rd.ok {P : Program} {w : World} {H : Hp} {h : Heap} {a : Addr} {u : HO} (r : Rd H a u) (x : HOk P w H h) : ObjOk P w H h a u := by
  rcases r with r | ⟨o, r⟩
  · exact x a u r
  · obtain ⟨_, q⟩ := x a _ r
    exact q
/-- what may be written -/
def Mut : Option HO → Prop
  | some (.lst _) => True
  | some (.dK _) => True
  | some (.dT _) => True
  | some (.set _ _) => True
  | some (.ins _ _ _) => True
  | some (.ext _) => True
  | _ => False
section
variable {P : Program} {w : World} {H : Hp} {h h' : Heap} {x e : Addr} {o' : HO}
/-- the object at e is changed: x itself, or the dict of the instance x -/
theorem HOk.write (ok : HOk P w H h) (mu : Mut (H x)) (he : e = x ∨ H e = some (.own x)) (k : ∀ b u, b ≠ e → h.get? b = some u → h'.get? b = some u) (heo : ∃ u, h'.get? e = some u)
    (new : ObjOk P w (upd H x o') h' x o') : HOk P w (upd H x o') h' := fun b u q => by
  have nown : ∀ c y, H c = some (.own y) → c ≠ x := fun c y r z => by subst z; rw [r] at mu; exact mu
  have ntup : ∀ c xs, H c = some (.tup xs) → c ≠ x := fun c xs r z => by subst z; rw [r] at mu; exact mu
  by_cases hb : b = x
  · subst hb; rw [upd_same] at q; cases q; exact new
  · rw [upd_ne hb] at q
    by_cases hbe : b = e
    · have q' : H b = some (.own x) := by
        rcases he with z | z
        · exact absurd (hbe.trans z) hb
        · rw [hbe]; exact z
      rw [q] at q'; cases q'
      obtain ⟨v, hv⟩ := heo
      exact ⟨v, by rw [hbe]; exact hv⟩
    · refine (ok b u q).stay (fun c v hc r => k c v ?_ r) (fun c r => by rw [upd_ne (nown c b r)]; exact r) fun c xs r => by rw [upd_ne (ntup c xs r)]; exact r
      rcases hc with rfl | hc
      · exact hbe
      · rintro rfl
        rcases he with z | z
        · exact nown c b hc z
        · rw [hc] at z; cases z; exact hb rfl
end

/-! ### kept unless tracked; of the frames at fs (the callers') the slots may change (an exception that passes writes there); of the records at ex (iterators) nothing is said -/
structure Un (fs ex : List Addr) (H H' : Hp) (h h' : Heap) : Prop where
  keep : ∀ b o, h.get? b = some o → H b = none → b ∉ fs → b ∉ ex → h'.get? b = some o
  slot : ∀ b o, h.get? b = some o → H b = none → b ∈ fs → b ∉ ex → ∃ sl, h'.get? b = some { o with slots := sl }
  free : ∀ b o, h.get? b = some o → H b = none → b ∉ ex → H' b = none
  there : ∀ b o, h.get? b = some o → b ∉ ex → ∃ o', h'.get? b = some o'
  tups : ∀ b xs, H b = some (.tup xs) → H' b = some (.tup xs)
  frzs : ∀ b o u, H b = some (.frz o u) → H' b = some (.frz o u)
  tbls : ∀ b ps, H b = some (.tbl ps) → ∃ more, H' b = some (.tbl (ps ++ more))
section
variable {fs fs' ex ex' : List Addr} {H H1 H2 : Hp} {h h1 h2 h' : Heap} {a x e : Addr} {o : HO}
theorem Un.any (u : Un fs ex H H1 h h1) {b : Addr} {ob : Obj} (q : h.get? b = some ob) (n : H b = none) (hx : b ∉ ex) : ∃ sl, h1.get? b = some { ob with slots := sl } := by
  by_cases hb : b ∈ fs
  · exact u.slot b ob q n hb hx
  · exact ⟨ob.slots, u.keep b ob q n hb hx⟩
theorem Un.trans (a : Un fs ex H H1 h h1) (b : Un fs ex H1 H2 h1 h2) : Un fs ex H H2 h h2 where
  keep := fun c ob q n hc hx => b.keep c ob (a.keep c ob q n hc hx) (a.free c ob q n hx) hc hx
  slot := fun c ob q n hc hx => by
    obtain ⟨sl, e1⟩ := a.slot c ob q n hc hx
    obtain ⟨sl', e2⟩ := b.slot c _ e1 (a.free c ob q n hx) hc hx
    exact ⟨sl', e2⟩
  free := fun c ob q n hx => by
    obtain ⟨o', e1⟩ := a.there c ob q hx
    exact b.free c o' e1 (a.free c ob q n hx) hx
  there := fun c ob q hx => by
    obtain ⟨o', e1⟩ := a.there c ob q hx
    exact b.there c o' e1 hx
  tups := fun c xs q => b.tups c xs (a.tups c xs q)
  frzs := fun c ob xs q => b.frzs c ob xs (a.frzs c ob xs q)
  tbls := fun c ps q => by
    obtain ⟨m1, e1⟩ := a.tbls c ps q
    obtain ⟨m2, e2⟩ := b.tbls c _ e1
    exact ⟨m1 ++ m2, by rw [e2, Array.append_assoc]⟩
theorem Un.kept (k : ∀ b u, h.get? b = some u → h'.get? b = some u) : Un fs ex H H h h' :=
  ⟨fun b ob q _ _ _ => k b ob q, fun b ob q _ _ _ => ⟨ob.slots, k b ob q⟩, fun _ _ _ n _ => n, fun b ob q _ => ⟨ob, k b ob q⟩, fun _ _ q => q, fun _ _ _ q => q, fun _ ps q => ⟨#[], by rw [q]; simp⟩⟩
theorem Un.refl : Un fs ex H H h h := Un.kept fun _ _ q => q
theorem Un.laid (k : ∀ b u, h.get? b = some u → h'.get? b = some u) (hp : h.objs.size ≤ a) (hn : H a = none) : Un fs ex H (upd H a o) h h' where
  keep := fun b u q _ _ _ => k b u q
  slot := fun b u q _ _ _ => ⟨u.slots, k b u q⟩
  free := fun b u q n _ => by rw [upd_ne (Nat.ne_of_lt (Nat.lt_of_lt_of_le (Heap.lt_size q) hp))]; exact n
  there := fun b u q _ => ⟨u, k b u q⟩
  tups := fun b xs q => by rw [upd_ne (ne_of_none q hn)]; exact q
  frzs := fun b u xs q => by rw [upd_ne (ne_of_none q hn)]; exact q
  tbls := fun b ps q => ⟨#[], by rw [upd_ne (ne_of_none q hn), q]; simp⟩
theorem Un.write (mu : Mut (H x)) (he : e = x ∨ H e = some (.own x)) (k : ∀ b u, b ≠ e → h.get? b = some u → h'.get? b = some u) (heo : ∃ u, h'.get? e = some u) : Un fs ex H (upd H x o) h h' := by
  have hx : ∀ b, H b = none → b ≠ x := fun b n z => by subst z; rw [n] at mu; exact mu
  have hb : ∀ b, H b = none → b ≠ e := fun b n z => by
    subst z
    rcases he with r | r
    · exact hx b n r
    · rw [n] at r; cases r
  have hm : ∀ b u, H b = some u → ¬ Mut (some u) → b ≠ x := fun b u q nm z => by subst z; rw [q] at mu; exact nm mu
  refine ⟨fun b u q n _ _ => k b u (hb b n) q, fun b u q n _ _ => ⟨u.slots, k b u (hb b n) q⟩, fun b u q n _ => by rw [upd_ne (hx b n)]; exact n, fun b u q _ => ?_,
    fun b xs q => by rw [upd_ne (hm b _ q fun z => z)]; exact q, fun b u xs q => by rw [upd_ne (hm b _ q fun z => z)]; exact q, fun b ps q => ⟨#[], by rw [upd_ne (hm b _ q fun z => z), q]; simp⟩⟩
  by_cases hbe : b = e
  · subst hbe; exact heo
  · exact ⟨u, k b u hbe q⟩
theorem Un.mono (u : Un fs ex H H1 h h1) (hs : ∀ b ∈ fs, b ∈ fs') (hx : ∀ b ∈ ex, b ∈ ex') : Un fs' ex' H H1 h h1 :=
  ⟨fun b ob q n hb he => u.keep b ob q n (fun z => hb (hs b z)) fun z => he (hx b z), fun _ _ q n _ he => u.any q n fun z => he (hx _ z), fun b ob q n he => u.free b ob q n fun z => he (hx b z), fun b ob q he => u.there b ob q fun z => he (hx b z), u.tups, u.frzs, u.tbls⟩
end

/-! ### the heap without what is tracked -/
def trk (h : Heap) (H : Hp) : List Addr := (List.range h.objs.size).filter fun a => (H a).isSome
def hidT (h : Heap) (H : Hp) : Heap := PySem.W.hideAll h (trk h H)
theorem hidT_size (h : Heap) (H : Hp) : (hidT h H).objs.size = h.objs.size := PySem.W.hideAll_size _ _
theorem hidT_get {h : Heap} {H : Hp} {b : Addr} {o : Obj} (e : h.get? b = some o) (n : H b = none) : (hidT h H).get? b = some o :=
  PySem.W.hideAll_get _ e fun hm => by
    have q : (H b).isSome = true := (List.mem_filter.mp hm).2
    rw [n] at q; simp at q
theorem of_hidT {h : Heap} {H : Hp} {b : Addr} {o : Obj} (e : (hidT h H).get? b = some o) : h.get? b = some o ∧ H b = none := by
  have e' : h.get? b = some o := PySem.W.of_hideAll (trk h H) e
  refine ⟨e', ?_⟩
  cases q : H b with
  | none => rfl
  | some x =>
    have hm : b ∈ trk h H := List.mem_filter.mpr ⟨List.mem_range.mpr (Heap.lt_size e'), by simp [q]⟩
    have z : (hidT h H).get? b = none := PySem.W.hideAll_none (trk h H) hm
    rw [z] at e; cases e

/-! ### OpenK's ledger, filled with every new object but one -/
def allNews (g h : Heap) (L : Addr) : List (Addr × Obj) := (List.range h.objs.size).filterMap fun a => if a = L ∨ (g.get? a).isSome = true then none else (h.get? a).map fun o => (a, o)
def rest (g h : Heap) (L d : Addr) : List (Addr × Obj) := (allNews g h L).filter fun p => decide (p.1 ≠ d)
end L2

namespace L2
open PySem PySem.Spec PyProof.Rows

/-- the module's facts, over the base: the heap at the law's entry without what is tracked there -/
structure Mod (K : PySem.W.Frag) (mg : Str → Option Value) (base : Heap) : Prop where
  kin : K.In base
  glob : base.Ns mainGlobals mg
  blt : ∃ mb, base.Ns builtinsNs mb ∧ ∀ x : Str, x ≠ "__name__" → mb x = bootBuiltins x
  nolimit : base.NoLimit

/-- the context: a def's body (or a comprehension's block) running. base: fixed through the whole law; s₀, H₀: the entry; outer: the frames whose slots others may change (a def's callers); stack: all frames that run;
   ex: iterators that were made ahead of the entry and are walked here (a comprehension's); fn: the names whose cells were made at the entry (a def: all; a comprehension's block: its own); calm: not within an except suite; pn: pins that every state bears; xe: what is wanted of an exception that leaves the code -/
structure Cx where
  prog : Program
  w : World
  K : PySem.W.Frag
  mg : Str → Option Value
  base : Heap
  A : Around
  N : List Str
  s₀ : Shared
  H₀ : Hp
  env : Env
  outer : List Env
  stack : List Env
  ex : List Addr
  fn : Str → Bool
  calm : Bool
  pn : List (Addr × Obj)
  xe : Value → Shared → Prop
/-- the callers' frames -/
def frs (l : List Env) : List Addr := l.filterMap (·.frame)
abbrev Cx.fs (X : Cx) : List Addr := frs X.outer

def Vis (sc : Scope) (x : Str) : Prop := sc.names.lookup x = some .local ∨ sc.names.lookup x = some .cell ∨ sc.names.lookup x = some .free
def Loc (sc : Scope) (x : Str) : Prop := sc.names.lookup x = some .local ∨ sc.names.lookup x = some .cell
def Look (env : Env) (h : Heap) (m : Str → Option Value) (x : Str) (u : Value) : Prop :=
  (env.kindOf x = some .local ∧ m x = some u) ∨ ((env.kindOf x = some .cell ∨ env.kindOf x = some .free) ∧ ∃ c, env.cells.lookup x = some c ∧ h.IsCell c (some u))

structure Cx.Ok (X : Cx) : Prop where
  mod : Mod X.K X.mg X.base
  kind : X.env.scope.kind = .function
  glob : X.env.globals = mainGlobals
  blt : X.env.builtins = builtinsNs
  above : X.s₀.heap.objs.size ≤ X.env.locals
  inj : ∀ x y c, X.env.cells.lookup x = some c → X.env.cells.lookup y = some c → x = y
  has : ∀ x, (X.env.kindOf x = some .cell ∨ X.env.kindOf x = some .free) → ∃ c, X.env.cells.lookup x = some c
  cab : ∀ x c, X.fn x = true → X.env.cells.lookup x = some c → X.s₀.heap.objs.size ≤ c
  hd : X.calm = true → X.A.handled = none
  frames : X.A.frames = some X.stack
  stk : X.stack = X.outer ∨ (X.stack = X.env :: X.outer ∧ X.env.frame = some X.env.locals)
  exf : ∀ b ∈ X.ex, b ≠ X.env.locals ∧ ∀ x c, X.env.cells.lookup x = some c → c ≠ b
  bs : ∀ b o, X.base.get? b = some o → X.s₀.heap.get? b = some o ∧ X.H₀ b = none
  bsz : X.base.objs.size ≤ X.s₀.heap.objs.size
  noex : ∀ b o, X.base.get? b = some o → b ∉ X.ex
  exfs : ∀ b ∈ X.ex, b ∉ X.fs
  funs : X.s₀.heap.FunFrames X.base X.outer
  frf : ∀ b ∈ X.fs, X.H₀ b = none

structure Inv (X : Cx) (pins : List (Addr × Obj)) (σ : List (Option V)) (H : Hp) (s : Shared) : Prop where
  ok : X.Ok
  os : s.os = X.s₀.os
  bare : AllBare s.gens
  base : Un X.fs X.ex X.H₀ H X.s₀.heap s.heap
  loc : ∃ m, s.heap.Ns X.env.locals m ∧ ∀ (i : Nat) (x : Str) (v : V), X.N[i]? = some x → σ[i]? = some (some v) → Vis X.env.scope x → ∃ u, RelV v u ∧ Look X.env s.heap m x u
  cell : ∀ x c, X.env.cells.lookup x = some c → ∃ v, s.heap.IsCell c v
  free : H X.env.locals = none
  freeC : ∀ x c, X.env.cells.lookup x = some c → H c = none
  pin : ∀ p ∈ X.pn ++ pins, s.heap.get? p.1 = some p.2 ∧ H p.1 = none ∧ p.1 ≠ X.env.locals ∧ p.1 ∉ X.fs ∧ ∀ v, p.2.data ≠ .cell v
  hok : HOk X.prog X.w H s.heap
  len : σ.length = X.N.length

section
variable {X : Cx} {pins : List (Addr × Obj)} {σ : List (Option V)} {H H' : Hp} {s : Shared} {h' : Heap}

theorem Cx.Ok.nofr (ok : X.Ok) {b : Addr} {o : Obj} (e : X.base.get? b = some o) : b ∉ X.fs := fun hb => by
  have := (ok.funs.mem hb).1
  rw [e] at this; cases this
theorem Inv.bs (I : Inv X pins σ H s) : ∀ b o, X.base.get? b = some o → s.heap.get? b = some o ∧ H b = none := fun b o e =>
  ⟨I.base.keep b o (I.ok.bs b o e).1 (I.ok.bs b o e).2 (I.ok.nofr e) (I.ok.noex b o e), I.base.free b o (I.ok.bs b o e).1 (I.ok.bs b o e).2 (I.ok.noex b o e)⟩
theorem Inv.bk (I : Inv X pins σ H s) : ∀ b o, X.base.get? b = some o → s.heap.get? b = some o := fun b o e => (I.bs b o e).1
theorem Inv.mod (I : Inv X pins σ H s) : Mod X.K X.mg X.base := I.ok.mod
theorem Inv.kIn (I : Inv X pins σ H s) : X.K.In s.heap := I.ok.mod.kin.keeps I.bk
theorem Inv.nolimit (I : Inv X pins σ H s) : s.heap.NoLimit := I.ok.mod.nolimit.keeps I.bk
/-- the frame over the base: for OpenK's rules (K.In X.base is I.mod.kin) -/
theorem Inv.fr (I : Inv X pins σ H s) : ∃ m, Fr X.base X.env.locals s.heap m :=
  let ⟨m, hn, _⟩ := I.loc
  ⟨m, hn, I.bk, Nat.le_trans I.ok.bsz I.ok.above⟩
theorem Inv.lt (I : Inv X pins σ H s) : X.env.locals < s.heap.objs.size := let ⟨_, hn, _⟩ := I.loc; hn.lt
theorem Inv.sz (I : Inv X pins σ H s) : X.s₀.heap.objs.size ≤ s.heap.objs.size := Nat.le_trans I.ok.above (Nat.le_of_lt I.lt)
theorem Inv.nofs (I : Inv X pins σ H s) {a : Addr} (h : s.heap.objs.size ≤ a) : a ∉ X.fs := fun hb => by
  obtain ⟨_, o, ho, _⟩ := I.ok.funs.mem hb
  exact absurd (Nat.lt_of_lt_of_le (Heap.lt_size ho) (Nat.le_trans I.sz h)) (Nat.lt_irrefl _)
theorem Inv.cne (I : Inv X pins σ H s) : ∀ x c, X.env.cells.lookup x = some c → c ≠ X.env.locals := fun x c e z => by
  obtain ⟨v, o, ho, hd⟩ := I.cell x c e
  obtain ⟨m, ⟨o', es, ep, ho', hd', _⟩, _⟩ := I.loc
  rw [z, ho'] at ho; cases ho; rw [hd'] at hd; cases hd
theorem Inv.funs (I : Inv X pins σ H s) : s.heap.FunFrames X.base X.outer := by
  have all : ∀ (l : List Env), (∀ b ∈ frs l, b ∈ X.fs) → X.s₀.heap.FunFrames X.base l → s.heap.FunFrames X.base l := by
    intro l
    induction l with
    | nil => intro _ _; trivial
    | cons env r ih =>
      intro hs hl
      obtain ⟨hk, ⟨L, o, hf, hn, ho, hd⟩, hr⟩ := hl
      have hL : L ∈ X.fs := hs L (by unfold frs; rw [List.filterMap_cons, hf]; exact List.mem_cons_self)
      obtain ⟨sl, e⟩ := I.base.slot L o ho (I.ok.frf L hL) hL fun z => I.ok.exfs L z hL
      exact ⟨hk, ⟨L, _, hf, hn, e, hd⟩, ih (fun b hb => hs b (by unfold frs; rw [List.filterMap_cons, hf]; exact List.mem_cons_of_mem _ hb)) hr⟩
  exact all X.outer (fun _ hb => hb) I.ok.funs

/-- the frames that run, for a call -/
theorem Inv.stack (I : Inv X pins σ H s) : s.heap.FunFrames X.base X.stack := by
  rcases I.ok.stk with e | ⟨e, hf⟩
  · rw [e]; exact I.funs
  · rw [e]
    obtain ⟨m, hn, _⟩ := I.loc
    refine .cons (by rw [I.ok.kind]; decide) hf hn ?_ I.funs
    exact Heap.get?_none_of_le (Nat.le_trans I.ok.bsz I.ok.above)
theorem Inv.stkSub (I : Inv X pins σ H s) : ∀ b ∈ frs X.stack, b ∈ X.env.locals :: X.fs := fun b hb => by
  rcases I.ok.stk with e | ⟨e, hf⟩
  · rw [e] at hb; exact List.mem_cons_of_mem _ hb
  · rw [e] at hb
    unfold frs at hb
    rw [List.filterMap_cons, hf] at hb
    exact hb
theorem Inv.stkFree (I : Inv X pins σ H s) : ∀ b ∈ frs X.stack, H b = none := fun b hb => by
  rcases List.mem_cons.mp (I.stkSub b hb) with e | hb
  · rw [e]; exact I.free
  · obtain ⟨_, o, ho, _⟩ := I.ok.funs.mem hb
    exact I.base.free b o ho (I.ok.frf b hb) fun z => I.ok.exfs b z hb

/-- THE STEP: the untracked objects but the frame and the records at ch are kept (the callers' frames up to slots), the frame's map is kept, the new abstract heap is held -/
theorem Inv.step {g' : Array GenState} {t' : Nat} {d' : Drawn} {ch : List Addr} (I : Inv X pins σ H s)
    (hch : ∀ b ∈ ch, (b ∈ X.ex ∨ X.s₀.heap.objs.size ≤ b) ∧ b ≠ X.env.locals ∧ (∀ x c, X.env.cells.lookup x = some c → c ≠ b) ∧ ∀ p ∈ X.pn ++ pins, p.1 ≠ b)
    (keep : ∀ b o, b ≠ X.env.locals → b ∉ X.fs → b ∉ ch → s.heap.get? b = some o → H b = none → h'.get? b = some o)
    (slot : ∀ b o, b ≠ X.env.locals → b ∈ X.fs → b ∉ ch → s.heap.get? b = some o → H b = none → ∃ sl, h'.get? b = some { o with slots := sl }) (free : ∀ b o, b ∉ ch → s.heap.get? b = some o → H b = none → H' b = none)
    (there : ∀ b o, b ∉ ch → s.heap.get? b = some o → ∃ o', h'.get? b = some o')
    (tups : ∀ b xs, H b = some (.tup xs) → H' b = some (.tup xs)) (frzs : ∀ b o u, H b = some (.frz o u) → H' b = some (.frz o u)) (tbls : ∀ b ps, H b = some (.tbl ps) → ∃ more, H' b = some (.tbl (ps ++ more)))
    (ns : ∀ m, s.heap.Ns X.env.locals m → h'.Ns X.env.locals m) (hok : HOk X.prog X.w H' h') (hg : AllBare g') :
    Inv X pins σ H' { s with heap := h', gens := g', drawn := d', toks := t' } := by
  have neL : ∀ b o, X.s₀.heap.get? b = some o → b ≠ X.env.locals := fun b o e => Nat.ne_of_lt (Nat.lt_of_lt_of_le (Heap.lt_size e) I.ok.above)
  have neC : ∀ b o, X.s₀.heap.get? b = some o → b ∉ X.ex → b ∉ ch := fun b o e hx hb => by
    rcases (hch b hb).1 with z | z
    · exact hx z
    · exact absurd (Nat.lt_of_lt_of_le (Heap.lt_size e) z) (Nat.lt_irrefl _)
  have cellK : ∀ x c, X.env.cells.lookup x = some c → ∀ v, s.heap.IsCell c v → h'.IsCell c v := fun x c e v ⟨o, ho, hd⟩ => by
    have nch : c ∉ ch := fun z => (hch c z).2.2.1 x c e rfl
    by_cases hc : c ∈ X.fs
    · obtain ⟨sl, q⟩ := slot c o (I.cne x c e) hc nch ho (I.freeC x c e)
      exact ⟨_, q, hd⟩
    · exact ⟨o, keep c o (I.cne x c e) hc nch ho (I.freeC x c e), hd⟩
  refine ⟨I.ok, I.os, hg, ⟨fun b o e n hb hx => ?_, fun b o e n hb hx => ?_, fun b o e n hx => ?_, fun b o e hx => ?_, fun b xs e => tups b xs (I.base.tups b xs e), fun b o xs e => frzs b o xs (I.base.frzs b o xs e), fun b ps e => ?_⟩, ?_, fun x c e => ?_, ?_, fun x c e => ?_, fun p hp => ?_, hok, I.len⟩
  · exact keep b o (neL b o e) hb (neC b o e hx) (I.base.keep b o e n hb hx) (I.base.free b o e n hx)
  · obtain ⟨sl, e1⟩ := I.base.slot b o e n hb hx
    obtain ⟨sl', e2⟩ := slot b _ (neL b o e) hb (neC b o e hx) e1 (I.base.free b o e n hx)
    exact ⟨sl', e2⟩
  · obtain ⟨o', e1⟩ := I.base.there b o e hx
    exact free b o' (neC b o e hx) e1 (I.base.free b o e n hx)
  · obtain ⟨o', e1⟩ := I.base.there b o e hx
    exact there b o' (neC b o e hx) e1
  · obtain ⟨m1, e1⟩ := I.base.tbls b ps e
    obtain ⟨m2, e2⟩ := tbls b _ e1
    exact ⟨m1 ++ m2, by rw [e2, Array.append_assoc]⟩
  · obtain ⟨m, hn, hl⟩ := I.loc
    refine ⟨m, ns m hn, fun i x v e1 e2 e3 => ?_⟩
    obtain ⟨u, r, l⟩ := hl i x v e1 e2 e3
    refine ⟨u, r, ?_⟩
    rcases l with l | ⟨k, c, e, z⟩
    · exact .inl l
    · exact .inr ⟨k, c, e, cellK x c e _ z⟩
  · obtain ⟨v, z⟩ := I.cell x c e
    exact ⟨v, cellK x c e v z⟩
  · obtain ⟨m, ⟨o, _, _, ho, _⟩, _⟩ := I.loc
    exact free _ o (fun z => (hch _ z).2.1 rfl) ho I.free
  · obtain ⟨v, o, ho, hd⟩ := I.cell x c e
    exact free c o (fun z => (hch c z).2.2.1 x c e rfl) ho (I.freeC x c e)
  · obtain ⟨e, n, ne, nf, d⟩ := I.pin p hp
    have nch : p.1 ∉ ch := fun z => (hch p.1 z).2.2.2 p hp rfl
    exact ⟨keep p.1 p.2 ne nf nch e n, free p.1 p.2 nch e n, ne, nf, d⟩
/-- .. where the frame's own object is kept too -/
theorem Inv.un {t' : Nat} (I : Inv X pins σ H s) (u : Un X.fs [] H H' s.heap h') (hok : HOk X.prog X.w H' h') : Inv X pins σ H' { s with heap := h', toks := t' } := by
  obtain ⟨m, ⟨o, es, ep, ho, r⟩, _⟩ := id I.loc
  obtain ⟨sl, hL⟩ := u.any ho I.free (by simp)
  exact I.step (g' := s.gens) (d' := s.drawn) (ch := []) (fun _ z => nomatch z) (fun b o _ hb _ e n => u.keep b o e n hb (by simp)) (fun b o _ hb _ e n => u.slot b o e n hb (by simp)) (fun b o _ e n => u.free b o e n (by simp)) (fun b o _ e => u.there b o e (by simp)) u.tups u.frzs u.tbls (fun m' hm => by
    obtain ⟨o', es', ep', ho', r'⟩ := hm
    rw [ho] at ho'; cases ho'
    exact ⟨_, es', ep', hL, r'⟩) hok I.bare
/-- behind a call (or a comprehension's block): the slots of this frame may have changed too, the records at ch may have turned -/
theorem Inv.call {g' : Array GenState} {t' : Nat} {d' : Drawn} {ch : List Addr} (I : Inv X pins σ H s) (u : Un (frs X.stack) ch H H' s.heap h') (hok : HOk X.prog X.w H' h') (hg : AllBare g')
    (hch : ∀ b ∈ ch, (b ∈ X.ex ∨ X.s₀.heap.objs.size ≤ b) ∧ b ≠ X.env.locals ∧ (∀ x c, X.env.cells.lookup x = some c → c ≠ b) ∧ ∀ p ∈ X.pn ++ pins, p.1 ≠ b) :
    Inv X pins σ H' { s with heap := h', gens := g', drawn := d', toks := t' } := by
  obtain ⟨m, ⟨o, es, ep, ho, r⟩, _⟩ := id I.loc
  obtain ⟨sl, hL⟩ := u.any ho I.free fun z => (hch _ z).2.1 rfl
  exact I.step (ch := ch) hch (fun b o hL hb hc e n => u.keep b o e n (fun z => (List.mem_cons.mp (I.stkSub b z)).elim hL hb) hc) (fun b o _ _ hc e n => u.any e n hc) (fun b o hc e n => u.free b o e n hc) (fun b o hc e => u.there b o e hc) u.tups u.frzs u.tbls (fun m' hm => by
    obtain ⟨o', es', ep', ho', r'⟩ := hm
    rw [ho] at ho'; cases ho'
    exact ⟨_, es', ep', hL, r'⟩) hok hg
/-- an untracked record of ours (an iterator) has turned -/
theorem Inv.turned {t' : Nat} {it : Addr} (I : Inv X pins σ H s) (k : ∀ b o, b ≠ it → s.heap.get? b = some o → h'.get? b = some o) (hn : H it = none) (hL : it ≠ X.env.locals)
    (h1 : it ∈ X.ex ∨ X.s₀.heap.objs.size ≤ it) (h2 : ∀ x c, X.env.cells.lookup x = some c → c ≠ it) (h3 : ∀ p ∈ X.pn ++ pins, p.1 ≠ it) : Inv X pins σ H { s with heap := h', toks := t' } := by
  have nit : ∀ b u, H b = some u → b ≠ it := fun b u e z => by rw [z, hn] at e; cases e
  refine I.step (g' := s.gens) (d' := s.drawn) (ch := [it]) (fun b hb => ?_) (fun b o _ _ hc e _ => k b o (fun z => hc (by simp [z])) e) (fun b o _ _ hc e _ => ⟨o.slots, k b o (fun z => hc (by simp [z])) e⟩) (fun _ _ _ _ n => n)
    (fun b o hc e => ⟨o, k b o (fun z => hc (by simp [z])) e⟩) (fun _ _ e => e) (fun _ _ _ e => e) (fun b ps e => ⟨#[], by rw [e]; simp⟩) (fun m hm => ?_) (fun b u e => ?_) I.bare
  · have e : b = it := by simpa using hb
    subst e
    exact ⟨h1, hL, h2, h3⟩
  · obtain ⟨o, es, ep, ho, r⟩ := hm
    exact ⟨o, es, ep, k _ o (Ne.symm hL) ho, r⟩
  · refine (I.hok b u e).stay (fun c v hc q => k c v ?_ q) (fun _ q => q) fun _ _ q => q
    rcases hc with z | z
    · rw [z]; exact nit b u e
    · exact nit c _ z
theorem Inv.tok (I : Inv X pins σ H s) (t : Nat) : Inv X pins σ H { s with toks := t } := I.un (h' := s.heap) (t' := t) Un.refl I.hok
/-- all objects kept -/
theorem Inv.kept {t' : Nat} (I : Inv X pins σ H s) (k : ∀ b u, s.heap.get? b = some u → h'.get? b = some u) : Inv X pins σ H { s with heap := h', toks := t' } := I.un (Un.kept k) (I.hok.kept k)
/-- a new object laid and tracked -/
theorem Inv.laid {a : Addr} {o : HO} {t' : Nat} (I : Inv X pins σ H s) (k : ∀ b u, s.heap.get? b = some u → h'.get? b = some u) (hp : s.heap.objs.size ≤ a) (new : ObjOk X.prog X.w (upd H a o) h' a o) :
    Inv X pins σ (upd H a o) { s with heap := h', toks := t' } := I.un (Un.laid k hp (I.hok.fresh hp)) (I.hok.laid k hp new)
/-- an object written -/
theorem Inv.write {x e : Addr} {o : HO} {t' : Nat} (I : Inv X pins σ H s) (mu : Mut (H x)) (he : e = x ∨ H e = some (.own x)) (k : ∀ b u, b ≠ e → s.heap.get? b = some u → h'.get? b = some u) (heo : ∃ u, h'.get? e = some u)
    (new : ObjOk X.prog X.w (upd H x o) h' x o) : Inv X pins σ (upd H x o) { s with heap := h', toks := t' } := I.un (Un.write mu he k heo) (I.hok.write mu he k heo new)
theorem Inv.pins_of {pins' : List (Addr × Obj)} (I : Inv X pins σ H s) (h : ∀ p ∈ pins', s.heap.get? p.1 = some p.2 ∧ H p.1 = none ∧ p.1 ≠ X.env.locals ∧ p.1 ∉ X.fs ∧ ∀ v, p.2.data ≠ .cell v) : Inv X pins' σ H s :=
  ⟨I.ok, I.os, I.bare, I.base, I.loc, I.cell, I.free, I.freeC, fun p hp => (List.mem_append.mp hp).elim (fun z => I.pin p (List.mem_append_left _ z)) (h p), I.hok, I.len⟩

theorem nodup_ix {N : List Str} (hN : N.Nodup) {i j : Nat} {x : Str} (a : N[i]? = some x) (b : N[j]? = some x) : i = j := by
  obtain ⟨h1, e1⟩ := List.getElem?_eq_some_iff.mp a
  obtain ⟨h2, e2⟩ := List.getElem?_eq_some_iff.mp b
  exact (List.getElem_inj hN).mp (e1.trans e2.symm)

/-- a name is stored; what changed -/
theorem store_ok2 {M : Model} {A : Around} {E : Value → Shared → Prop} {i : Nat} {x : Str} {v : V} {u : Value} {Q : Unit → Shared → Prop} (I : Inv X pins σ H s) (hN : X.N.Nodup) (hi : X.N[i]? = some x) (hx : Loc X.env.scope x) (r : RelV v u)
    (h : ∀ s', Inv X pins (σ.set i (some v)) H s' → (∃ a, Heap.SameBut a s.heap s'.heap ∧ (a = X.env.locals ∨ X.env.cells.lookup x = some a)) → Q () s') (hf : X.fn x = true ∨ X.env.scope.names.lookup x = some .local := by first | exact .inl rfl | exact .inr rfl | assumption) : wpAny M A (storeName X.env x u) Q E s := by
  obtain ⟨m, hn, hl⟩ := id I.loc
  have hcls : (X.env.scope.kind == .class || (X.env.scope.kind == .module && X.env.locals != X.env.globals)) = false := by rw [I.ok.kind]; rfl
  have hiσ : i < σ.length := by rw [I.len]; exact (List.getElem?_eq_some_iff.mp hi).1
  have cne := I.cne
  have tracked : ∀ {a : Addr} {h' : Heap}, (∃ o, s.heap.get? a = some o ∧ H a = none) → Heap.SameBut a s.heap h' → HOk X.prog X.w H h' := fun {a h'} ha hs b ob e => by
    obtain ⟨_, _, hfree⟩ := ha
    refine (I.hok b ob e).stay (fun c w' hc q => (hs.2 c ?_).trans q) (fun _ q => q) fun _ _ q => q
    rintro rfl
    rcases hc with rfl | hc
    · rw [hfree] at e; cases e
    · rw [hfree] at hc; cases hc
  rcases hx with hk | hk
  · refine wpAny_storeName_local hk hn (fun h' hn' hs => ?_) hcls
    obtain ⟨oL, _, _, hoL, _⟩ := id hn
    refine h _ ⟨I.ok, I.os, I.bare, ⟨fun b o e n hb hx => ?_, fun b o e n hb hx => ?_, I.base.free, fun b o e hx => ?_, I.base.tups, I.base.frzs, I.base.tbls⟩, ⟨_, hn', fun j y v' e1 e2 e3 => ?_⟩, fun y c e => ?_, I.free, I.freeC, fun p hp => ?_, tracked ⟨oL, hoL, I.free⟩ hs, by simpa using I.len⟩ ⟨_, hs, .inl rfl⟩
    · exact (hs.2 b (Nat.ne_of_lt (Nat.lt_of_lt_of_le (Heap.lt_size e) I.ok.above))).trans (I.base.keep b o e n hb hx)
    · obtain ⟨sl, e1⟩ := I.base.slot b o e n hb hx
      exact ⟨sl, (hs.2 b (Nat.ne_of_lt (Nat.lt_of_lt_of_le (Heap.lt_size e) I.ok.above))).trans e1⟩
    · obtain ⟨o', e1⟩ := I.base.there b o e hx
      exact ⟨o', (hs.2 b (Nat.ne_of_lt (Nat.lt_of_lt_of_le (Heap.lt_size e) I.ok.above))).trans e1⟩
    · by_cases hj : j = i
      · subst hj
        rw [hi] at e1; cases e1
        rw [List.getElem?_set_self hiσ] at e2
        cases e2
        exact ⟨u, r, .inl ⟨hk, by simp⟩⟩
      · rw [List.getElem?_set_ne (Ne.symm hj)] at e2
        obtain ⟨u', r', q⟩ := hl j y v' e1 e2 e3
        refine ⟨u', r', ?_⟩
        rcases q with ⟨k, e⟩ | ⟨k, c, e, z⟩
        · refine .inl ⟨k, ?_⟩
          have : y ≠ x := fun e => hj (nodup_ix hN e1 (e ▸ hi))
          simp [this, e]
        · exact .inr ⟨k, c, e, z.sameBut hs (cne y c e)⟩
    · obtain ⟨w', z⟩ := I.cell y c e
      exact ⟨w', z.sameBut hs (cne y c e)⟩
    · obtain ⟨e, n, ne, nf, d⟩ := I.pin p hp
      exact ⟨(hs.2 p.1 ne).trans e, n, ne, nf, d⟩
  · have hfn : X.fn x = true := by
      rcases hf with z | z
      · exact z
      · rw [z] at hk; cases hk
    obtain ⟨c, hc⟩ := I.ok.has x (.inl hk)
    obtain ⟨w', z⟩ := I.cell x c hc
    refine wpAny_storeName_cell I.ok.kind hk hc z (fun h' hc' hs => ?_)
    obtain ⟨oc, hoc, hocd⟩ := id z
    refine h { s with heap := h' } ⟨I.ok, I.os, I.bare, ⟨fun b o e n hb hx => ?_, fun b o e n hb hx => ?_, I.base.free, fun b o e hx => ?_, I.base.tups, I.base.frzs, I.base.tbls⟩, ⟨m, hn.sameBut hs (Ne.symm (cne x c hc)), fun j y v' e1 e2 e3 => ?_⟩, fun y c' e => ?_, I.free, I.freeC, fun p hp => ?_, tracked ⟨oc, hoc, I.freeC x c hc⟩ hs, by simpa using I.len⟩ ⟨c, hs, .inr hc⟩
    · exact (hs.2 b (Nat.ne_of_lt (Nat.lt_of_lt_of_le (Heap.lt_size e) (I.ok.cab x c hfn hc)))).trans (I.base.keep b o e n hb hx)
    · obtain ⟨sl, e1⟩ := I.base.slot b o e n hb hx
      exact ⟨sl, (hs.2 b (Nat.ne_of_lt (Nat.lt_of_lt_of_le (Heap.lt_size e) (I.ok.cab x c hfn hc)))).trans e1⟩
    · obtain ⟨o', e1⟩ := I.base.there b o e hx
      exact ⟨o', (hs.2 b (Nat.ne_of_lt (Nat.lt_of_lt_of_le (Heap.lt_size e) (I.ok.cab x c hfn hc)))).trans e1⟩
    · by_cases hj : j = i
      · subst hj
        rw [hi] at e1; cases e1
        rw [List.getElem?_set_self hiσ] at e2
        cases e2
        exact ⟨u, r, .inr ⟨.inl hk, c, hc, hc'⟩⟩
      · rw [List.getElem?_set_ne (Ne.symm hj)] at e2
        obtain ⟨u', r', q⟩ := hl j y v' e1 e2 e3
        refine ⟨u', r', ?_⟩
        rcases q with q | ⟨k, c', e, z'⟩
        · exact .inl q
        · refine .inr ⟨k, c', e, z'.sameBut hs ?_⟩
          rintro rfl
          exact hj (nodup_ix hN e1 (I.ok.inj _ _ _ e hc ▸ hi))
    · by_cases hcc : c' = c
      · subst hcc; exact ⟨_, hc'⟩
      · obtain ⟨w2, z2⟩ := I.cell y c' e
        exact ⟨w2, z2.sameBut hs hcc⟩
    · obtain ⟨e, n, ne, nf, d⟩ := I.pin p hp
      refine ⟨(hs.2 p.1 ?_).trans e, n, ne, nf, d⟩
      intro q
      rw [q, hoc] at e
      have q' : oc = p.2 := Option.some.inj e
      exact d w' (by rw [← q']; exact hocd)
theorem store_ok {M : Model} {A : Around} {E : Value → Shared → Prop} {i : Nat} {x : Str} {v : V} {u : Value} {Q : Unit → Shared → Prop} (I : Inv X pins σ H s) (hN : X.N.Nodup) (hi : X.N[i]? = some x) (hx : Loc X.env.scope x) (r : RelV v u)
    (h : ∀ s', Inv X pins (σ.set i (some v)) H s' → Q () s') (hf : X.fn x = true ∨ X.env.scope.names.lookup x = some .local := by first | exact .inl rfl | exact .inr rfl | assumption) : wpAny M A (storeName X.env x u) Q E s :=
  store_ok2 I hN hi hx r (fun s' I' _ => h s' I') hf
/-- behind a call or a block, the state as it is -/
theorem Inv.call' {s' : Shared} {ch : List Addr} (I : Inv X pins σ H s) (ho : s'.os = s.os) (u : Un (frs X.stack) ch H H' s.heap s'.heap) (hok : HOk X.prog X.w H' s'.heap) (hg : AllBare s'.gens)
    (hch : ∀ b ∈ ch, (b ∈ X.ex ∨ X.s₀.heap.objs.size ≤ b) ∧ b ≠ X.env.locals ∧ (∀ x c, X.env.cells.lookup x = some c → c ≠ b) ∧ ∀ p ∈ X.pn ++ pins, p.1 ≠ b) : Inv X pins σ H' s' := by
  obtain ⟨h', g', d', t', o'⟩ := s'
  have e : o' = s.os := ho
  subst e
  exact I.call (g' := g') (t' := t') (d' := d') u hok hg hch
end

/-! ### the judgements -/
/-- an exception: its class, its own dict's address (where it has one), the abstract heap behind it -/
abbrev XK := Value → Option Addr → Hp → Prop
abbrev St := List (Option V)
abbrev VK := V → Hp → Prop
/-- an expression's reading; a test's; an argument list's -/
abbrev TE := St → Hp → VK → Prop
abbrev TT := St → Hp → (Bool → Hp → Prop) → Prop
abbrev TA := St → Hp → (List V → Hp → Prop) → Prop
/-- what is wanted behind a statement -/
structure Ends where
  nx : St → Hp → Prop
  rt : VK
  bk : St → Hp → Prop := fun _ _ => False
  ct : St → Hp → Prop := fun _ _ => False
abbrev TS := Ends → St → Hp → Prop

def EP (X : Cx) (pins : List (Addr × Obj)) (σ : St) (Q : VK) (u : Value) (s' : Shared) : Prop := ∃ v H', Inv X pins σ H' s' ∧ RelV v u ∧ Q v H'
def TP (X : Cx) (pins : List (Addr × Obj)) (σ : St) (Q : Bool → Hp → Prop) (b : Bool) (s' : Shared) : Prop := ∃ H', Inv X pins σ H' s' ∧ Q b H'
def AP (X : Cx) (pins : List (Addr × Obj)) (σ : St) (Q : List V → Hp → Prop) (us : List Value) (s' : Shared) : Prop := ∃ vs H', Inv X pins σ H' s' ∧ Vals vs us ∧ Q vs H'
def SP (X : Cx) (pins : List (Addr × Obj)) (D : Ends) (f : Flow) (s' : Shared) : Prop :=
  match f with
  | .next => ∃ σ' H', Inv X pins σ' H' s' ∧ D.nx σ' H'
  | .brk => ∃ σ' H', Inv X pins σ' H' s' ∧ D.bk σ' H'
  | .cont => ∃ σ' H', Inv X pins σ' H' s' ∧ D.ct σ' H'
  | .ret u => ∃ v σ' H', Inv X pins σ' H' s' ∧ RelV v u ∧ D.rt v H'

def PE (X : Cx) (e : Expr) (t : TE) : Prop :=
  ∀ (pins : List (Addr × Obj)) (s : Shared) (σ : St) (H : Hp) (Q : VK), Inv X pins σ H s → t σ H Q → wpAny (model X.prog X.w) X.A (eval e X.env) (EP X pins σ Q) X.xe s
def PT (X : Cx) (e : Expr) (t : TT) : Prop :=
  ∀ (pins : List (Addr × Obj)) (s : Shared) (σ : St) (H : Hp) (Q : Bool → Hp → Prop), Inv X pins σ H s → t σ H Q → wpAny (model X.prog X.w) X.A (isTrue e X.env (eval e X.env)) (TP X pins σ Q) X.xe s
/-- a test whatever its 'whole' is (and, or) -/
def PW (X : Cx) (e : Expr) (t : TT) : Prop :=
  ∀ (whole : Sem Value) (pins : List (Addr × Obj)) (s : Shared) (σ : St) (H : Hp) (Q : Bool → Hp → Prop), Inv X pins σ H s → t σ H Q → wpAny (model X.prog X.w) X.A (isTrue e X.env whole) (TP X pins σ Q) X.xe s
theorem PW.pt {X : Cx} {e : Expr} {t : TT} (h : PW X e t) : PT X e t := h _
/-- an argument list (no star), from the left -/
def PA (X : Cx) (es : List Expr) (t : TA) : Prop :=
  ∀ (pos : Pos) (pins : List (Addr × Obj)) (s : Shared) (σ : St) (H : Hp) (Q : List V → Hp → Prop), Inv X pins σ H s → t σ H Q → wpAny (model X.prog X.w) X.A (spliced (backTo pos (starEach es X.env))) (AP X pins σ Q) X.xe s
def PS (X : Cx) (st : Stmt) (t : TS) : Prop :=
  ∀ (pins : List (Addr × Obj)) (s : Shared) (σ : St) (H : Hp) (D : Ends), Inv X pins σ H s → t D σ H → wpAny (model X.prog X.w) X.A (exec st X.env) (SP X pins D) X.xe s
def PSs (X : Cx) (st : List Stmt) (t : TS) : Prop :=
  ∀ (pins : List (Addr × Obj)) (s : Shared) (σ : St) (H : Hp) (D : Ends), Inv X pins σ H s → t D σ H → wpAny (model X.prog X.w) X.A (execs st X.env) (SP X pins D) X.xe s
/-- weaken the end -/
theorem thn {α : Type} {t : Sem α} {Q Q' : α → Shared → Prop} {M : Model} {A : Around} {E : Value → Shared → Prop} {s : Shared} (h : wpAny M A t Q E s) (hQ : ∀ a s, Q a s → Q' a s) : wpAny M A t Q' E s := wpAny_mono h hQ fun _ _ x => x
end L2

namespace L2
open PySem PySem.Spec PyProof.Rows
section
variable {X : Cx}

/-- two expressions in a row -/
theorem bin {a b : Expr} {ta tb : TE} (ha : PE X a ta) (hb : PE X b tb) {pins : List (Addr × Obj)} {s : Shared} {σ : St} {H : Hp} {R : V → V → Hp → Prop} (I : Inv X pins σ H s) (h : ta σ H fun x H1 => tb σ H1 fun y H2 => R x y H2)
    {α : Type} {Q : α → Shared → Prop} {f : Value → Value → Sem α}
    (hf : ∀ v u s2 x y H2, Inv X pins σ H2 s2 → RelV x v → RelV y u → R x y H2 → wpAny (model X.prog X.w) X.A (f v u) Q X.xe s2) :
    wpAny (model X.prog X.w) X.A (eval a X.env) (fun v s₁ => wpAny (model X.prog X.w) X.A (eval b X.env) (fun u s₂ => wpAny (model X.prog X.w) X.A (f v u) Q X.xe s₂) X.xe s₁) X.xe s := by
  refine thn (ha pins s σ H _ I h) fun v s1 ⟨x, H1, I1, r1, q1⟩ => ?_
  refine thn (hb pins s1 σ H1 _ I1 q1) fun u s2 ⟨y, H2, I2, r2, q2⟩ => ?_
  exact hf v u s2 x y H2 I2 r1 r2 q2

/-! ### names and constants -/
def tVar (i : Nat) : TE := fun σ H Q => ∃ v, σ[i]? = some (some v) ∧ Q v H
def tC (v : V) : TE := fun _ H Q => Q v H
theorem pe_var {i : Nat} {x : Str} {pos : Pos} (hN : X.N[i]? = some x) (hv : Vis X.env.scope x) (hd : (x == ("__debug__" : Str)) = false := by decide) (hcd : (x == ("__classdict__" : Str)) = false := by decide) : PE X (.Name x pos) (tVar i) := by
  intro pins s σ H Q I h
  obtain ⟨v, e, h⟩ := h
  obtain ⟨m, hn, hl⟩ := I.loc
  obtain ⟨u, r, l⟩ := hl i x v hN e hv
  have fin : EP X pins σ Q u s := ⟨v, H, I, r, h⟩
  rcases l with ⟨hk, hm⟩ | ⟨hk, c, hc, hcell⟩
  · exact wpAny_Name (wpAny_loadName_local I.ok.kind hk hn hm fin) hd
  · rcases hk with hk | hk
    · exact wpAny_Name (wpAny_loadName_cell I.ok.kind hk hc hcell fin) hd
    · exact wpAny_Name (wpAny_loadName_free I.ok.kind hk hc hcell fin hcd) hd
theorem pe_int {i j pos} : PE X (.Constant (.int i) j pos) (tC (.int i)) := fun _ _ _ H _ I h => wpAny_Constant_int ⟨.int i, H, I.tok _, ⟨_, rfl⟩, h⟩
theorem pe_bl {b j pos} : PE X (.Constant (.bool b) j pos) (tC (.bl b)) := fun _ _ _ H _ I h => Constant_bool ⟨.bl b, H, I, rfl, h⟩
theorem pe_non {j pos} : PE X (.Constant .none j pos) (tC .non) := fun _ _ _ H _ I h => Constant_none ⟨.non, H, I, rfl, h⟩
theorem pe_str {x j pos} : PE X (.Constant (.str x) j pos) (tC (.str x)) := fun _ _ _ H _ I h => Calls.Constant_str ⟨.str x, H, I.tok _, ⟨_, rfl⟩, h⟩

/-- a global name of the def -/
def Gl (X : Cx) (x : Str) : Prop := X.env.kindOf x = some .globalImplicit
theorem ld_glob {E : Value → Shared → Prop} {pins : List (Addr × Obj)} {s : Shared} {σ : St} {H : Hp} {x : Str} {u : Value} {pos : Pos} {Q : Value → Shared → Prop} (I : Inv X pins σ H s) (hg : Gl X x) (hm : X.mg x = some u) (h : Q u s)
    (hd : (x == ("__debug__" : Str)) = false := by decide) : wpAny (model X.prog X.w) X.A (eval (.Name x pos) X.env) Q E s :=
  Calls.Name_function_global I.ok.kind hg (Calls.loadGlobal_global (by rw [I.ok.glob]; exact I.mod.glob.keeps I.bk) hm h) hd
theorem ld_blt {E : Value → Shared → Prop} {pins : List (Addr × Obj)} {s : Shared} {σ : St} {H : Hp} {x : Str} {u : Value} {pos : Pos} {Q : Value → Shared → Prop} (I : Inv X pins σ H s) (hg : Gl X x) (hm : X.mg x = none) (hv : bootBuiltins x = some u) (h : Q u s)
    (hn : x ≠ "__name__" := by decide) (hd : (x == ("__debug__" : Str)) = false := by decide) : wpAny (model X.prog X.w) X.A (eval (.Name x pos) X.env) Q E s := by
  obtain ⟨mb, h1, h2⟩ := I.mod.blt
  exact Calls.Name_function_global I.ok.kind hg (Calls.loadGlobal_builtin (by rw [I.ok.glob]; exact I.mod.glob.keeps I.bk) hm (by rw [I.ok.blt]; exact h1.keeps I.bk) ((h2 x hn).trans hv) h) hd
/-- a module's constant, a class, a function, as a value -/
theorem pe_glob {x : Str} {v : V} {u : Value} {pos : Pos} (hg : Gl X x) (hm : X.mg x = some u) (r : RelV v u) (hd : (x == ("__debug__" : Str)) = false := by decide) : PE X (.Name x pos) (tC v) :=
  fun _ _ _ H _ I h => ld_glob I hg hm ⟨v, H, I, r, h⟩ hd
theorem pe_bltn {x : Str} {v : V} {u : Value} {pos : Pos} (hg : Gl X x) (hm : X.mg x = none) (hv : bootBuiltins x = some u) (r : RelV v u) (hn : x ≠ "__name__" := by decide) (hd : (x == ("__debug__" : Str)) = false := by decide) : PE X (.Name x pos) (tC v) :=
  fun _ _ _ H _ I h => ld_blt I hg hm hv ⟨v, H, I, r, h⟩ hn hd

/-! ### arithmetic -/
variable {a b : Expr} {ta tb : TE} {pos : Pos}
/-! ### comparisons -/
/-- a comparison as a value, as a test -/
def tB (t : TE) : TT := fun σ H Q => t σ H fun x H1 => ∃ c, x = .bl c ∧ Q c H1
/-- an expression whose value is a bool, as a test -/
theorem pt_val {e : Expr} {t : TE} (h : PE X e t) (he : ∀ whole, isTrue e X.env whole = (do let v ← whole; standAt e.pos; holding [v] (truthy v)) := by intro _; rfl) : PT X e (tB t) := by
  intro pins s σ H Q I hw
  refine isTrue_plain (thn (h pins s σ H _ I hw) fun v s1 ⟨x, H1, I1, r1, q1⟩ => ?_) (he _)
  obtain ⟨d, rfl, q⟩ := q1
  cases r1
  exact wpAny_truthy_bool ⟨H1, I1, q⟩

/-! ### and, or, not -/
variable {tA tB' : TT} {rest : List Expr}
def tAnd (t u : TT) : TT := fun σ H Q => t σ H fun c H1 => if c = true then u σ H1 Q else Q false H1
def tOr (t u : TT) : TT := fun σ H Q => t σ H fun c H1 => if c = true then Q true H1 else u σ H1 Q
def tNot (t : TT) : TT := fun σ H Q => t σ H fun c H1 => Q (!c) H1
theorem pw_and1 (ha : PT X a tA) : PW X (.BoolOp .And [a] pos) tA := by
  intro wh pins s σ H Q I h
  refine isTrue_and (thn (ha pins s σ H Q I h) fun c s1 e => ?_)
  cases c with
  | true => exact isTrue_and_nil e
  | false => exact e
theorem pw_or1 (ha : PT X a tA) : PW X (.BoolOp .Or [a] pos) tA := by
  intro wh pins s σ H Q I h
  refine isTrue_or (thn (ha pins s σ H Q I h) fun c s1 e => ?_)
  cases c with
  | false => exact isTrue_or_nil e
  | true => exact e
theorem pw_and (ha : PT X a tA) (hb : PW X (.BoolOp .And (b :: rest) pos) tB') : PW X (.BoolOp .And (a :: b :: rest) pos) (tAnd tA tB') := by
  intro wh pins s σ H Q I h
  refine isTrue_and (thn (ha pins s σ H _ I h) fun c s1 ⟨H1, I1, q1⟩ => ?_)
  cases c with
  | true => exact hb wh pins s1 σ H1 Q I1 q1
  | false => exact ⟨H1, I1, q1⟩
theorem pw_or (ha : PT X a tA) (hb : PW X (.BoolOp .Or (b :: rest) pos) tB') : PW X (.BoolOp .Or (a :: b :: rest) pos) (tOr tA tB') := by
  intro wh pins s σ H Q I h
  refine isTrue_or (thn (ha pins s σ H _ I h) fun c s1 ⟨H1, I1, q1⟩ => ?_)
  cases c with
  | true => exact ⟨H1, I1, q1⟩
  | false => exact hb wh pins s1 σ H1 Q I1 q1
theorem pt_not (ha : PT X a tA) : PT X (.UnaryOp .Not a pos) (tNot tA) := by
  intro pins s σ H Q I h
  exact isTrue_not (ha pins s σ H (fun c H1 => Q (!c) H1) I h)
/-- .. as values (bools) -/
def tAndV (ta tb : TE) : TE := fun σ H Q => ta σ H fun x H1 => ∃ c, x = .bl c ∧ if c = true then tb σ H1 Q else Q (.bl false) H1
def tOrV (ta tb : TE) : TE := fun σ H Q => ta σ H fun x H1 => ∃ c, x = .bl c ∧ if c = true then Q (.bl true) H1 else tb σ H1 Q
def tNotV (ta : TE) : TE := fun σ H Q => ta σ H fun x H1 => ∃ c, x = .bl c ∧ Q (.bl (!c)) H1
theorem pe_one {op} {t : TE} (h : PE X a t) : PE X (.BoolOp op [a] pos) t := fun pins s σ H Q I hw => BoolOp_one (h pins s σ H Q I hw)
theorem pe_and (ha : PE X a ta) (hb : PE X (.BoolOp .And (b :: rest) pos) tb) : PE X (.BoolOp .And (a :: b :: rest) pos) (tAndV ta tb) := by
  intro pins s σ H Q I h
  refine BoolOp_and (thn (ha pins s σ H _ I h) fun v s1 ⟨x, H1, I1, r1, q1⟩ => ?_)
  obtain ⟨c, rfl, q1⟩ := q1
  cases r1
  refine wpAny_truthy_bool ?_
  cases c with
  | true => exact hb pins s1 σ H1 Q I1 q1
  | false => exact ⟨.bl false, H1, I1, rfl, q1⟩
theorem pe_or (ha : PE X a ta) (hb : PE X (.BoolOp .Or (b :: rest) pos) tb) : PE X (.BoolOp .Or (a :: b :: rest) pos) (tOrV ta tb) := by
  intro pins s σ H Q I h
  refine BoolOp_or (thn (ha pins s σ H _ I h) fun v s1 ⟨x, H1, I1, r1, q1⟩ => ?_)
  obtain ⟨c, rfl, q1⟩ := q1
  cases r1
  refine wpAny_truthy_bool ?_
  cases c with
  | false => exact hb pins s1 σ H1 Q I1 q1
  | true => exact ⟨.bl true, H1, I1, rfl, q1⟩
theorem pe_not (ha : PE X a ta) : PE X (.UnaryOp .Not a pos) (tNotV ta) := by
  intro pins s σ H Q I h
  refine UnaryOp_ (thn (ha pins s σ H _ I h) fun v s1 ⟨x, H1, I1, r1, q1⟩ => ?_)
  obtain ⟨c, rfl, q1⟩ := q1
  cases r1
  exact not_of (wpAny_truthy_bool ⟨.bl (!c), H1, I1, rfl, q1⟩)
/-- a if t else b -/
def tIf (t : TT) (ta tb : TE) : TE := fun σ H Q => t σ H fun c H1 => if c = true then ta σ H1 Q else tb σ H1 Q
theorem pe_ifExp {c : Expr} (hc : PT X c tA) (ha : PE X a ta) (hb : PE X b tb) : PE X (.IfExp c a b pos) (tIf tA ta tb) := by
  intro pins s σ H Q I h
  refine wpAny_IfExp (thn (hc pins s σ H _ I h) fun d s1 ⟨H1, I1, q1⟩ => ?_)
  cases d with
  | true => exact ha pins s1 σ H1 Q I1 q1
  | false => exact hb pins s1 σ H1 Q I1 q1
end
end L2

namespace L2
open PySem PySem.Spec PyProof.Rows

/-! ### a list, a tuple that is read: tracked, frozen, or an object of the module -/
def SqL (K : PySem.W.Frag) (H : Hp) (a : Addr) (xs : List V) : Prop :=
  Rd H a (.lst xs) ∨
    ∃ (o : Obj) (its : Array Value) (n : Nat), K.lookup a = some o ∧ o.cls = .type "list" ∧ o.dict = none ∧ o.data = .seq its n ∧ its.size ≤ sizeLine ∧ Vals xs its.toList
def SqT (K : PySem.W.Frag) (H : Hp) (a : Addr) (xs : List V) : Prop :=
  Rd H a (.tup xs) ∨
    ∃ (o : Obj) (its : Array Value) (n : Nat), K.lookup a = some o ∧ o.cls = .type "tuple" ∧ o.data = .seq its n ∧ its.size ≤ sizeLine ∧ Vals xs its.toList
def absV : Value → Option V
  | .none => some .non
  | .bool b => some (.bl b)
  | .int i _ => some (.int i)
  | .str x _ => some (.str x)
  | .bytes b _ => some (.byt b)
  | .float b _ => some (.flt b)
  | .ref a => some (.ref a)
  | .type n => some (.ty n)
  | _ => none
theorem RelV.abs {x : V} {u : Value} (r : RelV x u) : absV u = some x := by
  cases x with
  | non => cases r; rfl
  | bl _ => cases r; rfl
  | int _ => obtain ⟨t, rfl⟩ := r; rfl
  | str _ => obtain ⟨t, rfl⟩ := r; rfl
  | byt _ => obtain ⟨t, rfl⟩ := r; rfl
  | flt _ => obtain ⟨t, rfl⟩ := r; rfl
  | ref _ => cases r; rfl
  | ty _ => cases r; rfl
theorem RelV.inj {x y : V} {u : Value} (r : RelV x u) (q : RelV y u) : x = y := Option.some.inj (r.abs.symm.trans q.abs)
theorem Vals.inj : ∀ {xs ys : List V} {us : List Value}, Vals xs us → Vals ys us → xs = ys
  | _, _, _, .nil, .nil => rfl
  | _, _, _, .cons r t, .cons r' t' => by rw [r.inj r', Vals.inj t t']
section
variable {X : Cx} {pins : List (Addr × Obj)} {σ : St} {H : Hp} {s : Shared} {a : Addr} {xs ys : List V}
theorem SqL.of {K : PySem.W.Frag} (h : H a = some (.lst xs)) : SqL K H a xs := .inl (.inl h)
theorem SqT.of {K : PySem.W.Frag} (h : H a = some (.tup xs)) : SqT K H a xs := .inl (.inl h)
theorem Inv.list (I : Inv X pins σ H s) (h : SqL X.K H a xs) : ∃ its : List Value, Vals xs its ∧ PlainL s.heap a its.toArray ∧ xs.length ≤ sizeLine := by
  rcases h with h | ⟨o, its, n, hk, hc, hd, hs, hz, r⟩
  · obtain ⟨z, its, n, r, e⟩ := h.ok I.hok
    exact ⟨its, r, ⟨_, n, e, rfl, rfl, rfl⟩, z⟩
  · refine ⟨its.toList, r, ⟨o, n, I.kIn a o hk, hc, hd, by simpa using hs⟩, ?_⟩
    have e := r.length
    simp only [Array.length_toList] at e
    omega
theorem Inv.tuple (I : Inv X pins σ H s) (h : SqT X.K H a xs) : ∃ its : List Value, Vals xs its ∧ IsTup s.heap a its.toArray ∧ xs.length ≤ sizeLine := by
  rcases h with h | ⟨o, its, n, hk, hc, hs, hz, r⟩
  · obtain ⟨z, its, r, p⟩ := h.ok I.hok
    exact ⟨its, r, p, z⟩
  · refine ⟨its.toList, r, ⟨o, I.kIn a o hk, hc, n, by simpa using hs⟩, ?_⟩
    have e := r.length
    simp only [Array.length_toList] at e
    omega
theorem Inv.list_inj (I : Inv X pins σ H s) (h : SqL X.K H a xs) (h' : SqL X.K H a ys) : xs = ys := by
  obtain ⟨its, r, ⟨o, n, e, _, _, d⟩, _⟩ := I.list h
  obtain ⟨its', r', ⟨o', n', e', _, _, d'⟩, _⟩ := I.list h'
  rw [e] at e'; cases e'
  rw [d] at d'
  injection d' with d1 _
  have : its = its' := by simpa using congrArg Array.toList d1
  subst this
  exact r.inj r'
theorem Inv.tuple_inj (I : Inv X pins σ H s) (h : SqT X.K H a xs) (h' : SqT X.K H a ys) : xs = ys := by
  obtain ⟨its, r, ⟨o, e, _, n, d⟩, _⟩ := I.tuple h
  obtain ⟨its', r', ⟨o', e', _, n', d'⟩, _⟩ := I.tuple h'
  rw [e] at e'; cases e'
  rw [d] at d'
  injection d' with d1 _
  have : its = its' := by simpa using congrArg Array.toList d1
  subst this
  exact r.inj r'
end

/-! ### another wish about exceptions -/
abbrev Cx.wish (X : Cx) (E : Value → Shared → Prop) : Cx := { X with xe := E }
/-- no exception leaves -/
abbrev Cx.nox (X : Cx) : Cx := X.wish fun _ _ => False
theorem Cx.Ok.wish {X : Cx} (ok : X.Ok) (E : Value → Shared → Prop) : (X.wish E).Ok :=
  ⟨ok.mod, ok.kind, ok.glob, ok.blt, ok.above, ok.inj, ok.has, ok.cab, ok.hd, ok.frames, ok.stk, ok.exf, ok.bs, ok.bsz, ok.noex, ok.exfs, ok.funs, ok.frf⟩
theorem Cx.Ok.unwish {X : Cx} {E : Value → Shared → Prop} (ok : (X.wish E).Ok) : X.Ok :=
  ⟨ok.mod, ok.kind, ok.glob, ok.blt, ok.above, ok.inj, ok.has, ok.cab, ok.hd, ok.frames, ok.stk, ok.exf, ok.bs, ok.bsz, ok.noex, ok.exfs, ok.funs, ok.frf⟩
section
variable {X : Cx} {pins : List (Addr × Obj)} {σ : St} {H : Hp} {s : Shared} {E : Value → Shared → Prop}
theorem Inv.wish (I : Inv X pins σ H s) (E : Value → Shared → Prop) : Inv (X.wish E) pins σ H s := ⟨I.ok.wish E, I.os, I.bare, I.base, I.loc, I.cell, I.free, I.freeC, I.pin, I.hok, I.len⟩
theorem Inv.unwish (I : Inv (X.wish E) pins σ H s) : Inv X pins σ H s := ⟨I.ok.unwish, I.os, I.bare, I.base, I.loc, I.cell, I.free, I.freeC, I.pin, I.hok, I.len⟩
theorem SP.unwish {D : Ends} {f : Flow} {s' : Shared} (h : SP (X.wish E) pins D f s') : SP X pins D f s' := by
  cases f with
  | next => obtain ⟨σ', H', I, q⟩ := h; exact ⟨σ', H', I.unwish, q⟩
  | brk => obtain ⟨σ', H', I, q⟩ := h; exact ⟨σ', H', I.unwish, q⟩
  | cont => obtain ⟨σ', H', I, q⟩ := h; exact ⟨σ', H', I.unwish, q⟩
  | ret u => obtain ⟨v, σ', H', I, r, q⟩ := h; exact ⟨v, σ', H', I.unwish, r, q⟩
theorem PE.nox {e : Expr} {t : TE} (h : PE X.nox e t) : PE X e t := fun pins s σ H Q I hw =>
  wpAny_mono (h pins s σ H Q (I.wish _) hw) (fun _ _ ⟨v, H', I', r, q⟩ => ⟨v, H', I'.unwish, r, q⟩) fun _ _ z => False.elim z
theorem PT.nox {e : Expr} {t : TT} (h : PT X.nox e t) : PT X e t := fun pins s σ H Q I hw =>
  wpAny_mono (h pins s σ H Q (I.wish _) hw) (fun _ _ ⟨H', I', q⟩ => ⟨H', I'.unwish, q⟩) fun _ _ z => False.elim z
theorem PSs.nox {st : List Stmt} {t : TS} (h : PSs X.nox st t) : PSs X st t := fun pins s σ H D I hw =>
  wpAny_mono (h pins s σ H D (I.wish _) hw) (fun _ _ q => q.unwish) fun _ _ z => False.elim z
end

/-! ### blocks and small statements -/
section
variable {X : Cx} {st : Stmt} {rest : List Stmt} {t u : TS} {e : Expr} {te : TE} {pos : Pos}
def tNext : TS := fun D σ H => D.nx σ H
def tSeq (t u : TS) : TS := fun D σ H => t { D with nx := u D } σ H
theorem pss_nil : PSs X [] tNext := fun _ _ σ H _ I h => wpAny_execs_nil ⟨σ, H, I, h⟩
theorem pss_cons (h1 : PS X st t) (h2 : PSs X rest u) : PSs X (st :: rest) (tSeq t u) := by
  intro pins s σ H D I h
  refine wpAny_execs_cons (thn (h1 pins s σ H { D with nx := u D } I h) fun f s1 q => ?_)
  cases f with
  | next =>
    obtain ⟨σ', H', I', q⟩ := q
    exact h2 pins s1 σ' H' D I' q
  | ret v => exact q
  | brk => exact q
  | cont => exact q
theorem pss_one (h1 : PS X st t) : PSs X [st] t := by
  intro pins s σ H D I h
  refine wpAny_execs_cons (thn (h1 pins s σ H D I h) fun f s1 q => ?_)
  cases f with
  | next => exact wpAny_execs_nil q
  | ret v => exact q
  | brk => exact q
  | cont => exact q
/-- in a def's body nothing is shown -/
theorem Inv.quiet {pins : List (Addr × Obj)} {σ : St} {H : Hp} {s : Shared} (I : Inv X pins σ H s) : interactive X.env = false := by simp [interactive, I.ok.kind]
/-- an expression whose value is dropped -/
def tDrop (te : TE) : TS := fun D σ H => te σ H fun _ H1 => D.nx σ H1
theorem ps_expr (he : PE X e te) (hs : swapsWith e none pos.line X.env = pure false := by rfl) : PS X (.Expr e pos) (tDrop te) := by
  intro pins s σ H D I h
  exact wpAny_Expr_any (thn (he pins s σ H _ I h) fun v s1 ⟨x, H1, I1, r1, q1⟩ => ⟨σ, H1, I1, q1⟩) I.quiet hs
def tRet (te : TE) : TS := fun D σ H => te σ H D.rt
theorem ps_ret (he : PE X e te) : PS X (.Return (some e) pos) (tRet te) := by
  intro pins s σ H D I h
  exact wpAny_Return_some (thn (he pins s σ H _ I h) fun v s1 ⟨x, H1, I1, r1, q1⟩ => ⟨x, σ, H1, I1, r1, q1⟩)
def tIfS (c : TT) (t u : TS) : TS := fun D σ H => c σ H fun b H1 => if b = true then t D σ H1 else u D σ H1
theorem ps_if {c : Expr} {a b : List Stmt} {tc : TT} (hc : PT X c tc) (ha : PSs X a t) (hb : PSs X b u) : PS X (.If c a b pos) (tIfS tc t u) := by
  intro pins s σ H D I h
  refine wpAny_If (thn (hc pins s σ H _ I h) fun d s1 ⟨H1, I1, q1⟩ => ?_)
  cases d with
  | true => exact ha pins s1 σ H1 D I1 q1
  | false => exact hb pins s1 σ H1 D I1 q1
end

/-! ### targets -/
abbrev TG := V → St → Hp → (St → Hp → Prop) → Prop
abbrev TGs := List V → St → Hp → (St → Hp → Prop) → Prop
def PG (X : Cx) (target : Expr) (t : TG) : Prop :=
  ∀ (pins : List (Addr × Obj)) (s : Shared) (σ : St) (H : Hp) (v : V) (u : Value) (Q : St → Hp → Prop), Inv X pins σ H s → RelV v u → t v σ H Q →
    wpAny (model X.prog X.w) X.A (assign target X.env u) (fun _ s' => ∃ σ' H', Inv X pins σ' H' s' ∧ Q σ' H') X.xe s
/-- several targets, one after another -/
def PGs (X : Cx) (ts : List Expr) (t : TGs) : Prop :=
  ∀ (pins : List (Addr × Obj)) (s : Shared) (σ : St) (H : Hp) (vs : List V) (us : List Value) (Q : St → Hp → Prop), Inv X pins σ H s → Vals vs us → t vs σ H Q →
    wpAny (model X.prog X.w) X.A (assignInOrder ((assignEach ts X.env).map (·.2)) us) (fun _ s' => ∃ σ' H', Inv X pins σ' H' s' ∧ Q σ' H') X.xe s
/-- o[i] = v, by values -/
abbrev TSet := V → V → V → Hp → (Hp → Prop) → Prop
def PSet (X : Cx) (t : TSet) : Prop :=
  ∀ (pins : List (Addr × Obj)) (s : Shared) (σ : St) (H : Hp) (o i v : V) (ov iv u : Value) (Q : Hp → Prop), Inv X pins σ H s → RelV o ov → RelV i iv → RelV v u → t o i v H Q →
    wpAny (model X.prog X.w) X.A (setItem ov iv u) (fun _ s' => ∃ H', Inv X pins σ H' s' ∧ Q H') X.xe s
/-- a op= b, by values -/
abbrev TIp := V → V → Hp → VK → Prop
def PIp (X : Cx) (op : Operator) (t : TIp) : Prop :=
  ∀ (pins : List (Addr × Obj)) (s : Shared) (σ : St) (H : Hp) (x y : V) (v u : Value) (Q : VK), Inv X pins σ H s → RelV x v → RelV y u → t x y H Q →
    wpAny (model X.prog X.w) X.A (inplaceOp op v u) (EP X pins σ Q) X.xe s
section
variable {X : Cx} {pos : Pos}
def gName (i : Nat) : TG := fun v σ H Q => Q (σ.set i (some v)) H
theorem pg_name {i : Nat} {x : Str} (hN : X.N.Nodup) (hi : X.N[i]? = some x) (hx : Loc X.env.scope x) (hf : X.fn x = true ∨ X.env.scope.names.lookup x = some .local := by first | exact .inl rfl | exact .inr rfl | assumption) : PG X (.Name x pos) (gName i) := by
  intro pins s σ H v u Q I r h
  exact wpAny_assign_Name (store_ok I hN hi hx r (fun s' I' => ⟨_, H, I', h⟩) hf)
def gNil : TGs := fun vs σ H Q => vs = [] ∧ Q σ H
def gCons (t : TG) (u : TGs) : TGs := fun vs σ H Q => ∃ v r, vs = v :: r ∧ t v σ H fun σ' H' => u r σ' H' Q
theorem pgs_nil : PGs X [] gNil := by
  intro pins s σ H vs us Q I r h
  obtain ⟨e, h⟩ := h
  subst e
  cases r
  exact assignInOrder_nil ⟨σ, H, I, h⟩
theorem pgs_cons {e : Expr} {es : List Expr} {t : TG} {u : TGs} (h1 : PG X e t) (h2 : PGs X es u)
    (hs : (assignEach (e :: es) X.env).map (·.2) = assign e X.env :: (assignEach es X.env).map (·.2) := by rfl) : PGs X (e :: es) (gCons t u) := by
  intro pins s σ H vs us Q I r h
  obtain ⟨v, vr, e1, h⟩ := h
  subst e1
  cases r with
  | cons r rr =>
    rw [hs]
    refine assignInOrder_cons (thn (h1 pins s σ H _ _ _ I r h) fun _ s1 ⟨σ1, H1, I1, q1⟩ => ?_)
    exact h2 pins s1 σ1 H1 _ _ Q I1 rr q1
/-- (a, b, ..) = a tuple of that length -/
def gTup (K : PySem.W.Frag) (n : Nat) (t : TGs) : TG := fun v σ H Q => ∃ a xs, v = .ref a ∧ SqT K H a xs ∧ xs.length = n ∧ t xs σ H Q
theorem pg_tup {es : List Expr} {k : Nat} {t : TGs} {n : Nat} (hc : X.calm = true) (h : PGs X es t)
    (hn : (assignEach es X.env).length = n := by rfl) (hst : (assignEach es X.env).findIdx? (·.1) = none := by rfl) : PG X (.Tuple es k pos) (gTup X.K n t) := by
  intro pins s σ H v u Q I r hw
  obtain ⟨a, xs, e1, hq, hl, hw⟩ := hw
  subst e1
  cases r
  obtain ⟨its, rv, ht, hz⟩ := I.tuple hq
  refine assign_Tuple_tuple (I.ok.hd hc) ht (by simp [hn, ← hl, rv.length]) hst fun h' hx => ?_
  have I1 : Inv X pins σ H { s with heap := h' } := I.kept (t' := s.toks) fun b o e => hx b o (Nat.ne_of_lt (Heap.lt_size e)) e
  exact h pins _ σ H xs _ Q I1 (by simpa using rv) hw
/-- o[i] = .. -/
def gSub (to ti : TE) (t : TSet) : TG := fun v σ H Q => to σ H fun o H1 => ti σ H1 fun i H2 => t o i v H2 fun H3 => Q σ H3
theorem pg_sub {o i : Expr} {to ti : TE} {t : TSet} (ho : PE X o to) (hi : PE X i ti) (hs : PSet X t)
    (ha : ∀ v, assign (.Subscript o i pos) X.env v = (do
      let ov ← holding [v] (eval o X.env)
      let iv ← holding [v, ov] (eval i X.env)
      standAt pos
      holding [v, ov, iv] (setItem ov iv v)
      release [v, ov, iv] []) := by intro _; rfl) : PG X (.Subscript o i pos) (gSub to ti t) := by
  intro pins s σ H v u Q I r h
  rw [ha]
  refine wpAny_bind (wpAny_holding (thn (ho pins s σ H _ I h) fun ov s1 ⟨x, H1, I1, r1, q1⟩ => ?_))
  refine wpAny_bind (wpAny_holding (thn (hi pins s1 σ H1 _ I1 q1) fun iv s2 ⟨y, H2, I2, r2, q2⟩ => ?_))
  refine wpAny_bind (wpAny_standAt (wpAny_bind (wpAny_holding (thn (hs pins s2 σ H2 x y v ov iv u _ I2 r1 r2 r q2) fun _ s3 ⟨H3, I3, q3⟩ => ?_))))
  exact wpAny_release ⟨σ, H3, I3, q3⟩
/-- target = value -/
def tAsg (te : TE) (g : TG) : TS := fun D σ H => te σ H fun x H1 => g x σ H1 D.nx
theorem ps_asg {tg e : Expr} {te : TE} {g : TG} (he : PE X e te) (hg : PG X tg g) (hs : swapsWithSole [tg] e pos.line X.env = pure false := by rfl) (hw : swappedStores [tg] e X.env = pure none := by rfl)
    (h1 : (assignEach [tg] X.env).map (·.2) = [assign tg X.env] := by rfl) : PS X (.Assign [tg] e pos) (tAsg te g) := by
  intro pins s σ H D I h
  refine wpAny_Assign_stores (thn (he pins s σ H _ I h) fun v s1 ⟨x, H1, I1, r1, q1⟩ => ?_) hs hw
  rw [h1]
  exact thn (hg pins s1 σ H1 x v _ I1 r1 q1) fun _ s2 q => q
/-- name = value -/
theorem ps_set {i : Nat} {x : Str} {e : Expr} {te : TE} {pos' : Pos} (hN : X.N.Nodup) (hi : X.N[i]? = some x) (hx : Loc X.env.scope x) (he : PE X e te) (hs : swapsWith e (some (.Name x pos')) pos.line X.env = pure false := by rfl) (hf : X.fn x = true ∨ X.env.scope.names.lookup x = some .local := by first | exact .inl rfl | exact .inr rfl | assumption) :
    PS X (.Assign [.Name x pos'] e pos) (tAsg te (gName i)) := by
  intro pins s σ H D I h
  refine wpAny_Assign_Name (thn (he pins s σ H _ I h) fun v s1 ⟨y, H1, I1, r1, q1⟩ => ?_) hs
  exact store_ok I1 hN hi hx r1 (fun s2 I2 => ⟨_, H1, I2, q1⟩) hf
/-- a, b = x, y with plain local names: stored from the right; the pair itself is not tracked (the opening rows as in PyProof/Rows/TupAssign.lean:23) -/
def tPar (i j : Nat) (ta : TA) : TS := fun D σ H => ta σ H fun vs H1 => ∃ v w, vs = [v, w] ∧ D.nx ((σ.set i (some v)).set j (some w)) H1
theorem ps_par {i j : Nat} {x y : Str} {a b : Expr} {ta : TA} {px py pt : Pos} {kt k2 pt2} (hc : X.calm = true) (hN : X.N.Nodup) (hi : X.N[i]? = some x) (hj : X.N[j]? = some y) (hij : i ≠ j)
    (hx : X.env.scope.names.lookup x = some .local) (hy : X.env.scope.names.lookup y = some .local) (ha : PA X [a, b] ta)
    (hw : swappedStores [.Tuple [.Name x px, .Name y py] kt pt] (.Tuple [a, b] k2 pt2) X.env = pure (some [x, y]))
    (hs : swapsWithSole [.Tuple [.Name x px, .Name y py] kt pt] (.Tuple [a, b] k2 pt2) pos.line X.env = pure false := by rfl) :
    PS X (.Assign [.Tuple [.Name x px, .Name y py] kt pt] (.Tuple [a, b] k2 pt2) pos) (tPar i j ta) := by
  intro pins s σ H D I h
  rw [exec_Assign_arm]
  refine wpAny_bind (wpAny_standAt ?_)
  rw [hs]
  refine wpAny_bind (wpAny_pure ?_)
  rw [if_neg (by decide)]
  refine wpAny_bind (Tuple_ (thn (ha _ pins s σ H _ I h) fun us s1 ⟨vs, H1, I1, r1, q1⟩ => ?_))
  obtain ⟨v, w, e1, q1⟩ := q1
  subst e1
  obtain ⟨u1, u2, rfl, rv, rw'⟩ : ∃ u1 u2, us = [u1, u2] ∧ RelV v u1 ∧ RelV w u2 := by
    cases r1 with
    | cons p q =>
      cases q with
      | cons p' q' =>
        cases q'
        exact ⟨_, _, rfl, p, p'⟩
  refine wpAny_newObj_type ?_ (by show 2 ≤ sizeLine; decide)
  have I2 : Inv X pins σ H1 { s1 with heap := s1.heap.push { cls := .type "tuple", data := .seq [u1, u2].toArray } } := I1.kept (t' := s1.toks) fun b o e => Heap.get?_push_of_some _ e
  rw [hw]
  refine wpAny_bind (wpAny_pure ?_)
  show wpAny (model X.prog X.w) X.A (do rule "assign.swapped-stores"; let items ← unpackItems (.ref s1.heap.objs.size) 2 none; assignInOrder [fun v => bindName X.env y v, fun v => bindName X.env x v] items.reverse; pure Flow.next) _ _ _
  refine wpAny_bind (wpAny_rule (wpAny_bind (unpackItems_tuple (items := #[u1, u2]) (I.ok.hd hc) (IsTup.new s1.heap _) fun h' hx' => ?_)))
  have I3 := I2.kept (h' := h') (t' := s1.toks) fun b o e => hx' b o (Nat.ne_of_lt (Heap.lt_size e)) e
  show wpAny _ _ (assignInOrder [fun v => bindName X.env y v, fun v => bindName X.env x v] [u2, u1] >>= fun _ => pure Flow.next) _ _ _
  refine wpAny_bind (assignInOrder_cons (wpAny_bindName (store_ok I3 hN hj (.inl hy) rw' (fun s2 I4 => ?_) (.inr hy))))
  refine assignInOrder_cons (wpAny_bindName (store_ok I4 hN hi (.inl hx) rv (fun s3 I5 => assignInOrder_nil (wpAny_pure ?_)) (.inr hx)))
  rw [List.set_comm _ _ (Ne.symm hij)] at I5
  exact ⟨_, H1, I5, q1⟩
/-- o[i] op= e -/
def tAugS (to ti te : TE) (tget : V → V → Hp → VK → Prop) (tip : TIp) (tset : TSet) : TS := fun D σ H => to σ H fun o H1 => ti σ H1 fun i H2 => tget o i H2 fun x H3 => te σ H3 fun y H4 => tip x y H4 fun z H5 => tset o i z H5 fun H6 => D.nx σ H6
/-- o[i], by values -/
def PGet (X : Cx) (t : V → V → Hp → VK → Prop) : Prop :=
  ∀ (pins : List (Addr × Obj)) (s : Shared) (σ : St) (H : Hp) (o i : V) (ov iv : Value) (Q : VK), Inv X pins σ H s → RelV o ov → RelV i iv → t o i H Q →
    wpAny (model X.prog X.w) X.A (getItem ov iv) (EP X pins σ Q) X.xe s
theorem ps_augS {o i e : Expr} {to ti te : TE} {tget : V → V → Hp → VK → Prop} {tip : TIp} {tset : TSet} {op : Operator} {tpos : Pos} (ho : PE X o to) (hi : PE X i ti) (hg : PGet X tget) (he : PE X e te) (hp : PIp X op tip) (hs : PSet X tset)
    (ha : ∀ ov iv new, augStore i ov iv new = (do holding [new, ov, iv] (setItem ov iv new); release [new, ov, iv] []; pure .next) := by intros; rfl) : PS X (.AugAssign (.Subscript o i tpos) op e pos) (tAugS to ti te tget tip tset) := by
  intro pins s σ H D I h
  refine wpAny_AugAssign_SubscriptAny (thn (ho pins s σ H _ I h) fun ov s1 ⟨x1, H1, I1, r1, q1⟩ => ?_) ha
  refine thn (hi pins s1 σ H1 _ I1 q1) fun iv s2 ⟨x2, H2, I2, r2, q2⟩ => ?_
  refine thn (hg pins s2 σ H2 x1 x2 ov iv _ I2 r1 r2 q2) fun old s3 ⟨x3, H3, I3, r3, q3⟩ => ?_
  refine thn (he pins s3 σ H3 _ I3 q3) fun v s4 ⟨x4, H4, I4, r4, q4⟩ => ?_
  refine thn (hp pins s4 σ H4 x3 x4 old v _ I4 r3 r4 q4) fun new s5 ⟨x5, H5, I5, r5, q5⟩ => ?_
  exact thn (hs pins s5 σ H5 x1 x2 x5 ov iv new _ I5 r1 r2 r5 q5) fun _ s6 ⟨H6, I6, q6⟩ => ⟨σ, H6, I6, q6⟩
/-- ints -/
def ipI (f : Int → Int → Int) : TIp := fun x y H Q => ∃ i j, x = .int i ∧ y = .int j ∧ Q (.int (f i j)) H
theorem ip_add : PIp X .Add (ipI fun i j => i + j) := by
  intro pins s σ H x y v u Q I r1 r2 h
  obtain ⟨i, j, e1, e2, q⟩ := h
  subst e1; subst e2
  obtain ⟨t, rfl⟩ := r1
  obtain ⟨t', rfl⟩ := r2
  exact iadd_int ⟨.int _, H, I.tok _, ⟨_, rfl⟩, q⟩
theorem ip_sub : PIp X .Sub (ipI fun i j => i - j) := by
  intro pins s σ H x y v u Q I r1 r2 h
  obtain ⟨i, j, e1, e2, q⟩ := h
  subst e1; subst e2
  obtain ⟨t, rfl⟩ := r1
  obtain ⟨t', rfl⟩ := r2
  exact isub_int ⟨.int _, H, I.tok _, ⟨_, rfl⟩, q⟩
end

/-! ### while -/
section
variable {X : Cx} {pos : Pos}
/-- the invariant W with its measure -/
def tWhile (c : TT) (tb : TS) : TS := fun D σ H => ∃ W : Nat → St → Hp → Prop, (∃ m, W m σ H) ∧ ∀ m σ H, W m σ H →
  c σ H fun b H1 => if b = true then ∃ N : St → Hp → Prop, (∀ σ' H', N σ' H' → ∃ m', m' < m ∧ W m' σ' H') ∧ tb { D with nx := N, ct := N, bk := D.nx } σ H1 else D.nx σ H1
theorem ps_while {c : Expr} {body : List Stmt} {tc : TT} {tb : TS} (hp : PassesOwn (model X.prog X.w) X.A X.env X.xe) (hc : PT X c tc) (hb : PSs X body tb) : PS X (.While c body [] pos) (tWhile tc tb) := by
  intro pins s σ H D I h
  obtain ⟨W, ⟨m0, w0⟩, turn⟩ := h
  refine wpAny_While (codeAny_whileLoop (fun n s' => ∃ σ' H', Inv X pins σ' H' s' ∧ W n σ' H') ?_ m0 ⟨σ, H, I, w0⟩)
  rintro n s1 ⟨σ1, H1, I1, w1⟩
  refine wpAny_passesOwn hp (thn (hc pins s1 σ1 H1 _ I1 (turn n σ1 H1 w1)) fun b s2 ⟨H2, I2, q2⟩ => ?_)
  cases b with
  | true =>
    obtain ⟨N, hN, q2⟩ := q2
    rw [if_pos rfl]
    refine wpAny_passesOwn hp (thn (hb pins s2 σ1 H2 _ I2 q2) fun f s3 q3 => ?_)
    cases f with
    | next =>
      obtain ⟨σ3, H3, I3, n3⟩ := q3
      obtain ⟨m', hm, w3⟩ := hN σ3 H3 n3
      exact ⟨m', hm, σ3, H3, I3, w3⟩
    | cont =>
      obtain ⟨σ3, H3, I3, n3⟩ := q3
      obtain ⟨m', hm, w3⟩ := hN σ3 H3 n3
      exact ⟨m', hm, σ3, H3, I3, w3⟩
    | brk => exact q3
    | ret v => exact q3
  | false =>
    rw [if_neg Bool.false_ne_true]
    exact wpAny_execs_nil ⟨σ1, H2, I2, q2⟩
end

/-! ### what a loop or a comprehension walks -/
/-- at turn i: it yields x (the heap may grow), or it stops -/
structure It where
  go : Nat → Hp → Prop
  yld : Nat → Hp → V → Hp → Prop
  stop : Nat → Hp → Prop
/-- the iterator's own objects may turn: they are not the frame's, not pinned, younger than the entry (or a comprehension's own) -/
def FpOk (X : Cx) (pins : List (Addr × Obj)) (H : Hp) (b : Addr) : Prop :=
  H b = none ∧ b ≠ X.env.locals ∧ b ∉ X.fs ∧ (b ∈ X.ex ∨ X.s₀.heap.objs.size ≤ b) ∧ (∀ x c, X.env.cells.lookup x = some c → c ≠ b) ∧ ∀ p ∈ X.pn ++ pins, p.1 ≠ b
theorem Inv.fpOk {X : Cx} {pins : List (Addr × Obj)} {σ : St} {H H' : Hp} {s : Shared} {b : Addr} (I : Inv X pins σ H s) (hb : s.heap.objs.size ≤ b) (hn : H' b = none) : FpOk X pins H' b := by
  refine ⟨hn, Nat.ne_of_gt (Nat.lt_of_lt_of_le I.lt hb), I.nofs hb, .inr (Nat.le_trans I.sz hb), fun x c e z => ?_, fun p hp z => ?_⟩
  · obtain ⟨v, q⟩ := I.cell x c e
    exact absurd (Nat.lt_of_lt_of_le q.lt (by rw [z]; exact hb)) (Nat.lt_irrefl _)
  · exact absurd (Nat.lt_of_lt_of_le (Heap.lt_size (I.pin p hp).1) (by rw [z]; exact hb)) (Nat.lt_irrefl _)
structure Turn (P : Program) (w : World) (K : PySem.W.Frag) (tg : Expr) (J : It) (fp : List Addr) (it : Addr) (tn : Nat → Heap → Prop) : Prop where
  mem : it ∈ fp
  obj : ∀ i h, tn i h → ∀ b ∈ fp, ∃ o, h.get? b = some o ∧ ∀ v, o.data ≠ .cell v
  keep : ∀ i h h', tn i h → (∀ b ∈ fp, ∀ o, h.get? b = some o → h'.get? b = some o) → tn i h'
  item : ∀ (X : Cx), X.prog = P → X.w = w → X.K = K → X.calm = true → ∀ (i : Nat) (pins : List (Addr × Obj)) (s : Shared) (σ : St) (H : Hp) (E : Value → Shared → Prop), Inv X pins σ H s → (∀ b ∈ fp, FpOk X pins H b) → tn i s.heap → J.go i H →
    wpAny (model P w) X.A (pyNext (.ref it)) (fun r s1 => ∃ u, r = some u ∧
      wpAny (model P w) X.A (letOwnedTupleGo tg (.ref it) u) (fun _ s2 => ∃ x H', Inv X pins σ H' s2 ∧ RelV x u ∧ J.yld i H x H' ∧ tn (i + 1) s2.heap ∧ ∀ b ∈ fp, H' b = none) E s1) E s
  done : ∀ (X : Cx), X.prog = P → X.w = w → X.K = K → X.calm = true → ∀ (i : Nat) (pins : List (Addr × Obj)) (s : Shared) (σ : St) (H : Hp) (E : Value → Shared → Prop), Inv X pins σ H s → (∀ b ∈ fp, FpOk X pins H b) → tn i s.heap → J.stop i H →
    wpAny (model P w) X.A (pyNext (.ref it)) (fun r s1 => r = none ∧ Inv X pins σ H s1) E s
  self : ∀ (A : Around) (i : Nat) (s : Shared) (Q : Value → Shared → Prop) (E : Value → Shared → Prop), tn i s.heap → Q (.ref it) s → wpAny (model P w) A (pyIter (.ref it)) Q E s
abbrev TI := St → Hp → (It → Hp → Prop) → Prop
/-- an iterator has come -/
def PIE (X : Cx) (pins : List (Addr × Obj)) (σ : St) (tg : Expr) (R : It → Hp → Prop) (itv : Value) (s2 : Shared) : Prop :=
  ∃ (it : Addr) (fp : List Addr) (tn : Nat → Heap → Prop) (J : It) (H' : Hp), itv = .ref it ∧ Inv X pins σ H' s2 ∧ Turn X.prog X.w X.K tg J fp it tn ∧ tn 0 s2.heap ∧ (∀ b ∈ fp, FpOk X pins H' b) ∧ R J H'
def PI (X : Cx) (tg iter : Expr) (wi : TI) : Prop :=
  ∀ (pins : List (Addr × Obj)) (s : Shared) (σ : St) (H : Hp) (R : It → Hp → Prop), Inv X pins σ H s → wi σ H R →
    wpAny (model X.prog X.w) X.A (eval iter X.env) (fun v s1 => wpAny (model X.prog X.w) X.A (pyIter v) (PIE X pins σ tg R) X.xe s1) X.xe s

/-- the step ahead of the store is nothing for an iterator that keeps no tuple -/
theorem go_of {M : Model} {A : Around} {E : Value → Shared → Prop} {s : Shared} {tg : Expr} {it : Addr} {u : Value} {o : Obj} {n : String} {vs : Array Value} {Q : Unit → Shared → Prop} (ho : s.heap.get? it = some o) (hc : o.cls = .type n) (hd : o.data = .fields vs)
    (hn : ["enumerate", "zip", "dict_itemiterator", "dict_reverseitemiterator", "odict_iterator", "itertools.zip_longest", "itertools.pairwise"].contains n = false) (hQ : Q () s) : wpAny M A (letOwnedTupleGo tg (.ref it) u) Q E s := by
  unfold letOwnedTupleGo
  cases tg <;> first
    | exact wpAny_pure hQ
    | (cases u <;> first
        | exact wpAny_pure hQ
        | (refine wpAny_bind (wpAny_load ho ?_)
           rw [hc, hd]
           show wpAny M A (if (["enumerate", "zip", "dict_itemiterator", "dict_reverseitemiterator", "odict_iterator", "itertools.zip_longest", "itertools.pairwise"].contains n && vs[0]? == some (rawInt _)) = true then _ else _) Q E s
           rw [if_neg (by intro h; rw [hn, Bool.false_and] at h; cases h)]
           exact wpAny_pure hQ))

/-- the list at a, as it stands at each turn (a loop may append to it) -/
def Itl (K : PySem.W.Frag) (a : Addr) : It :=
  ⟨fun i H => ∃ xs x, SqL K H a xs ∧ xs[i]? = some x, fun i H x H' => H' = H ∧ ∀ xs, SqL K H a xs → xs[i]? = some x, fun i H => ∃ xs, SqL K H a xs ∧ xs.length ≤ i⟩
/-- lo, lo + 1, .. (n of them) -/
def Itr (lo : Int) (n : Nat) : It := ⟨fun i _ => i < n, fun i H x H' => H' = H ∧ x = .int (lo + i), fun i _ => n ≤ i⟩
theorem turn_list {P : Program} {w : World} {K : PySem.W.Frag} {tg : Expr} (a it : Addr) : Turn P w K tg (Itl K a) [it] it (fun i h => h.IsListIter it a i) where
  mem := by simp
  obj := fun i h st b hb => by
    have e : b = it := by simpa using hb
    subst e
    obtain ⟨o, e, c, d⟩ := st
    exact ⟨o, e, fun v z => by rw [d] at z; cases z⟩
  keep := fun i h h' st k => st.at fun o e => k it (by simp) o e
  item := by
    intro X hP hw hK hc i pins s σ H E I hf st hg
    subst hP hw hK
    obtain ⟨xs, x, hq, hx⟩ := hg
    obtain ⟨its, rv, p, hz⟩ := I.list hq
    obtain ⟨u, hu, ru⟩ := rv.get hx
    obtain ⟨f0, f1, f2, f3, f4, f5⟩ := hf it (by simp)
    refine wpAny_pyNext_list_item st p.isList (x := u) (by simpa using hu) fun h' st' sb => ?_
    have I1 : Inv X pins σ H { s with heap := h' } := I.turned (t' := s.toks) (fun b o hb e => (sb.2 b hb).trans e) f0 f1 f3 f4 f5
    obtain ⟨o, e, c, d⟩ := id st'
    exact ⟨u, rfl, go_of (s := { s with heap := h' }) e c d (by decide) ⟨x, H, I1, ru, ⟨rfl, fun ys hy => by rw [I.list_inj hy hq]; exact hx⟩, st', fun b hb => (hf b hb).1⟩⟩
  done := by
    intro X hP hw hK hc i pins s σ H E I hf st hg
    subst hP hw hK
    obtain ⟨xs, hq, hx⟩ := hg
    obtain ⟨its, rv, p, hz⟩ := I.list hq
    obtain ⟨f0, f1, f2, f3, f4, f5⟩ := hf it (by simp)
    have hl := rv.length
    exact wpAny_pyNext_list_end (I.ok.hd hc) st p.isList (by simp; omega) fun h' eb => ⟨rfl, I.turned (t' := s.toks) (fun b o hb e => eb b o hb e) f0 f1 f3 f4 f5⟩
  self := fun _ _ _ _ _ st h => wpAny_pyIter_listiter st h
theorem turn_range {P : Program} {w : World} {K : PySem.W.Frag} {tg : Expr} (it : Addr) (lo : Int) (n : Nat) : Turn P w K tg (Itr lo n) [it] it (fun i h => IsRangeIter h it (lo + (i : Nat) * 1) ((n : Int) - (i : Nat)) 1) where
  mem := by simp
  obj := fun i h st b hb => by
    have e : b = it := by simpa using hb
    subst e
    exact ⟨_, st, fun v z => by
      have z' : Data.fields _ = Data.cell v := z
      cases z'⟩
  keep := fun i h h' st k => k it (by simp) _ st
  item := by
    intro X hP hw hK hc i pins s σ H E I hf st hg
    subst hP hw hK
    obtain ⟨f0, f1, f2, f3, f4, f5⟩ := hf it (by simp)
    have W := Walks.range (prog := X.prog) (w := X.w) (I.ok.hd hc) it lo 1 n
    refine W.item i s _ _ hg st fun v h' tk hv st' kk => ?_
    obtain ⟨t, rfl⟩ := hv
    have I1 : Inv X pins σ H { s with heap := h', toks := tk } := I.turned (fun b o hb e => kk b o (by simpa using hb) e) f0 f1 f3 f4 f5
    refine ⟨_, rfl, go_of (s := { s with heap := h', toks := tk }) (n := "range_iterator") st' rfl rfl (by decide) ⟨.int (lo + i), H, I1, ⟨t, ?_⟩, ⟨rfl, rfl⟩, st', fun b hb => (hf b hb).1⟩⟩
    rw [Int.mul_one]
  done := by
    intro X hP hw hK hc i pins s σ H E I hf st hg
    subst hP hw hK
    obtain ⟨f0, f1, f2, f3, f4, f5⟩ := hf it (by simp)
    exact wpAny_pyNext_range_end (I.ok.hd hc) st (by have : n ≤ i := hg; omega) fun h' eb => ⟨rfl, I.turned (t' := s.toks) (fun b o hb e => eb b o hb e) f0 f1 f3 f4 f5⟩
  self := fun _ _ _ _ _ st h => wpAny_pyIter_rangeiter st h
end L2

namespace L2
open PySem PySem.Spec PyProof.Rows
section
variable {X : Cx} {tg : Expr}
def iList (K : PySem.W.Frag) (tl : TE) : TI := fun σ H R => tl σ H fun x H1 => ∃ a, x = .ref a ∧ (∃ xs, SqL K H1 a xs) ∧ R (Itl K a) H1
theorem pi_list {l : Expr} {tl : TE} (hl : PE X l tl) : PI X tg l (iList X.K tl) := by
  intro pins s σ H R I h
  refine thn (hl pins s σ H _ I h) fun v s1 ⟨x, H1, I1, r1, q1⟩ => ?_
  obtain ⟨a, e, ⟨xs, hq⟩, q⟩ := q1
  subst e
  cases r1
  obtain ⟨its, rv, p, hz⟩ := I1.list hq
  refine wpAny_pyIter_list p.isList ?_
  refine ⟨s1.heap.objs.size, [s1.heap.objs.size], _, _, H1, rfl, I1.kept (t' := s1.toks) fun b o e => Heap.get?_push_of_some _ e, turn_list a _, ⟨_, Heap.get?_push_size _ rfl, rfl, rfl⟩, fun b hb => ?_, q⟩
  have e : b = s1.heap.objs.size := by simpa using hb
  subst e
  exact I1.fpOk (Nat.le_refl _) (I1.hok.fresh (Nat.le_refl _))
/-- a range object just made, walked -/
theorem range_it {pins : List (Addr × Obj)} {σ : St} {H : Hp} {s : Shared} {R : It → Hp → Prop} {E : Value → Shared → Prop} {lo hi : Int} {t u v : Tok} {tk : Nat} (I : Inv X pins σ H s) (h1 : -(2 ^ 62) ≤ lo) (h2 : lo < 2 ^ 62) (h3 : -(2 ^ 62) ≤ hi) (h4 : hi < 2 ^ 62)
    (q : R (Itr lo (hi - lo).toNat) H) : wpAny (model X.prog X.w) X.A (pyIter (.ref s.heap.objs.size)) (PIE X pins σ tg R) E { s with heap := s.heap.push { cls := .type "range", data := .fields #[.int lo t, .int hi u, .int 1 v] }, toks := tk } := by
  refine wpAny_pyIter_range (IsRange.new ..) (small_one h1 h2 h3 h4) ?_
  have I1 : Inv X pins σ H { s with heap := s.heap.push { cls := .type "range", data := .fields #[.int lo t, .int hi u, .int 1 v] }, toks := tk } := I.kept fun b o e => Heap.get?_push_of_some _ e
  refine ⟨(s.heap.push { cls := .type "range", data := .fields #[.int lo t, .int hi u, .int 1 v] }).objs.size, [(s.heap.push { cls := .type "range", data := .fields #[.int lo t, .int hi u, .int 1 v] }).objs.size], _, _, H, rfl,
    I1.kept (t' := tk) fun b o e => Heap.get?_push_of_some _ e, turn_range _ lo (hi - lo).toNat, ?_, fun b hb => ?_, q⟩
  · have e1 : lo + ((0 : Nat) : Int) * 1 = lo := by simp
    have e2 : (((hi - lo).toNat : Nat) : Int) - ((0 : Nat) : Int) = Builtin.Range.rangeSize lo hi 1 := by rw [rangeSize_one]; split <;> omega
    show IsRangeIter _ _ (lo + ((0 : Nat) : Int) * 1) ((((hi - lo).toNat : Nat) : Int) - ((0 : Nat) : Int)) 1
    rw [e1, e2]
    exact Heap.get?_push_size _ rfl
  · have e : b = (s.heap.push { cls := .type "range", data := .fields #[.int lo t, .int hi u, .int 1 v] }).objs.size := by simpa using hb
    subst e
    exact I1.fpOk (Nat.le_refl _) (I1.hok.fresh (Nat.le_refl _))
def iRng1 (ta : TA) : TI := fun σ H R => ta σ H fun vs H1 => ∃ j : Int, vs = [.int j] ∧ -(2 ^ 62) ≤ j ∧ j < 2 ^ 62 ∧ R (Itr 0 j.toNat) H1
theorem pi_range1 {a : Expr} {ta : TA} {p pos : Pos} (hg : Gl X "range") (hm : X.mg "range" = none) (ha : PA X [a] ta) (hs : starEach [a] X.env = [(false, eval a X.env)] := by rfl) : PI X tg (.Call (.Name "range" p) [a] [] pos) (iRng1 ta) := by
  intro pins s σ H R I h
  refine Call_ (ld_blt I hg hm boot_range (PyProof.Rows.callWith_type1 (thn (ha pos pins s σ H _ I h) fun us s1 ⟨vs, H1, I1, r1, q1⟩ => ?_) hs rfl))
  obtain ⟨j, e, q1, q2, q⟩ := q1
  subst e
  cases r1 with
  | cons r rr =>
    cases rr
    obtain ⟨t, rfl⟩ := r
    exact call_range_1 (range_it I1 (by omega) (by omega) q1 q2 (by simpa using q))
/-! ### for -/
/-- W: the invariant by the turn and a measure; N: what the body is to reach -/
def tFor (wi : TI) (g : TG) (tb : TS) : TS := fun D σ H => wi σ H fun J H1 => ∃ W : Nat → Nat → St → Hp → Prop, (∃ m, W 0 m σ H1) ∧ ∀ i m σ H, W i m σ H →
  (J.stop i H ∧ D.nx σ H) ∨ (J.go i H ∧ ∃ N : St → Hp → Prop, (∀ σ' H', N σ' H' → ∃ m', m' < m ∧ W (i + 1) m' σ' H') ∧ ∀ x H', J.yld i H x H' → g x σ H' fun σ2 H2 => tb { D with nx := N, ct := N, bk := D.nx } σ2 H2)
/-- the records at fp as they stand -/
def pinsAt (fp : List Addr) (h : Heap) : List (Addr × Obj) := fp.filterMap fun b => (h.get? b).map fun o => (b, o)
theorem mem_pinsAt {fp : List Addr} {h : Heap} {b : Addr} {o : Obj} (hb : b ∈ fp) (e : h.get? b = some o) : (b, o) ∈ pinsAt fp h := List.mem_filterMap.mpr ⟨b, hb, by rw [e]; rfl⟩
theorem of_pinsAt {fp : List Addr} {h : Heap} {p : Addr × Obj} (hp : p ∈ pinsAt fp h) : p.1 ∈ fp ∧ h.get? p.1 = some p.2 := by
  obtain ⟨b, hb, e⟩ := List.mem_filterMap.mp hp
  cases q : h.get? b with
  | none => rw [q] at e; cases e
  | some o =>
    rw [q] at e
    have e' : (b, o) = p := Option.some.inj e
    subst e'
    exact ⟨hb, q⟩
theorem Inv.pinned {pins : List (Addr × Obj)} {σ : St} {H : Hp} {s : Shared} {fp : List Addr} (I : Inv X pins σ H s) (hf : ∀ b ∈ fp, FpOk X pins H b) (ho : ∀ b ∈ fp, ∃ o, s.heap.get? b = some o ∧ ∀ v, o.data ≠ .cell v) : Inv X (pins ++ pinsAt fp s.heap) σ H s :=
  I.pins_of fun p hp => (List.mem_append.mp hp).elim (fun z => I.pin p (List.mem_append_right _ z)) fun z => by
    obtain ⟨hb, e⟩ := of_pinsAt z
    obtain ⟨f0, f1, f2, _⟩ := hf p.1 hb
    obtain ⟨o, e', d⟩ := ho p.1 hb
    rw [e] at e'; cases e'
    exact ⟨e, f0, f1, f2, d⟩
theorem Inv.unpinned {pins pl : List (Addr × Obj)} {σ : St} {H : Hp} {s : Shared} (I : Inv X (pins ++ pl) σ H s) : Inv X pins σ H s := I.pins_of fun p hp => I.pin p (List.mem_append_right _ (List.mem_append_left _ hp))
theorem ps_for {iter : Expr} {body : List Stmt} {wi : TI} {g : TG} {tb : TS} {pos : Pos} (hp : PassesOwn (model X.prog X.w) X.A X.env X.xe) (hc : X.calm = true) (hi : PI X tg iter wi) (hg : PG X tg g) (hb : PSs X body tb)
    (hs : ∀ x, foldedSetIterable iter X.env x = pure x := by intro _; rfl) : PS X (.For tg iter body [] pos) (tFor wi g tb) := by
  intro pins s σ H D I h
  refine wpAny_For (thn (hi pins s σ H _ I h) fun v s1 h1 => thn h1 fun itv s2 h2 => ?_) hs
  obtain ⟨it, fp, tn, J, H2, e, I2, T, st2, f2, W, ⟨m0, w0⟩, turn⟩ := h2
  subst e
  -- what stays true of the iterator's objects through the loop
  have stat : ∀ {H' : Hp}, (∀ b ∈ fp, H' b = none) → ∀ b ∈ fp, FpOk X pins H' b := fun hn b hb => ⟨hn b hb, (f2 b hb).2⟩
  refine codeAny_forLoop_any (fun n s' => ∃ i σ' H', Inv X pins σ' H' s' ∧ tn i s'.heap ∧ (∀ b ∈ fp, H' b = none) ∧ W i n σ' H') ?_ m0 ⟨0, σ, H2, I2, st2, fun b hb => (f2 b hb).1, w0⟩
  rintro n s3 ⟨i, σ3, H3, I3, st3, fr3, w3⟩
  rcases turn i n σ3 H3 w3 with ⟨stop, qn⟩ | ⟨go, N, hN, step⟩
  · refine wpAny_passesOwn hp (thn (T.done X rfl rfl rfl hc i pins s3 σ3 H3 X.xe I3 (stat fr3) st3 stop) fun r s4 ⟨hr, I4⟩ => ?_)
    subst hr
    exact wpAny_execs_nil ⟨σ3, H3, I4, qn⟩
  · refine wpAny_passesOwn hp (thn (T.item X rfl rfl rfl hc i pins s3 σ3 H3 X.xe I3 (stat fr3) st3 go) fun r s4 ⟨u, hr, h4⟩ => ?_)
    subst hr
    refine wpAny_passesOwn hp (thn h4 fun _ s5 ⟨x, H5, I5, r5, y5, st5, fr5⟩ => ?_)
    have I5' := I5.pinned (stat fr5) (T.obj _ _ st5)
    refine wpAny_passesOwn hp (thn (hg _ s5 σ3 H5 x u _ I5' r5 (step x H5 y5)) fun _ s6 ⟨σ6, H6, I6, q6⟩ => ?_)
    refine wpAny_passesOwn hp (thn (hb _ s6 σ6 H6 _ I6 q6) fun f s7 q7 => ?_)
    have again : ∀ {σ7 : St} {H7 : Hp}, Inv X (pins ++ pinsAt fp s5.heap) σ7 H7 s7 → N σ7 H7 → ∃ m, m < n ∧ ∃ i σ' H', Inv X pins σ' H' s7 ∧ tn i s7.heap ∧ (∀ b ∈ fp, H' b = none) ∧ W i m σ' H' := fun {σ7 H7} I7 n7 => by
      obtain ⟨m', hm, w7⟩ := hN σ7 H7 n7
      refine ⟨m', hm, i + 1, σ7, H7, I7.unpinned, T.keep _ _ _ st5 fun b hb o e => (I7.pin (b, o) (List.mem_append_right _ (List.mem_append_right _ (mem_pinsAt hb e)))).1, fun b hb => ?_, w7⟩
      obtain ⟨o, e, d⟩ := T.obj _ _ st5 b hb
      exact (I7.pin (b, o) (List.mem_append_right _ (List.mem_append_right _ (mem_pinsAt hb e)))).2.1
    cases f with
    | next => obtain ⟨σ7, H7, I7, n7⟩ := q7; exact again I7 n7
    | cont => obtain ⟨σ7, H7, I7, n7⟩ := q7; exact again I7 n7
    | brk => obtain ⟨σ7, H7, I7, q7⟩ := q7; exact ⟨σ7, H7, I7.unpinned, q7⟩
    | ret v => obtain ⟨x7, σ7, H7, I7, r7, q7⟩ := q7; exact ⟨x7, σ7, H7, I7.unpinned, r7, q7⟩
end

/-! ### the forms one uses -/
/-- over a list that the body leaves as it is -/
theorem for_list {K : PySem.W.Frag} {a : Addr} {xs : List V} {g : TG} {tb : TS} {D : Ends} {σ : St} {H : Hp} (Pv : Nat → St → Hp → Prop) (h0 : Pv 0 σ H) (hl : ∀ i σ H, i ≤ xs.length → Pv i σ H → SqL K H a xs)
    (hs : ∀ i x σ H, xs[i]? = some x → Pv i σ H → g x σ H fun σ2 H2 => tb { D with nx := Pv (i + 1), ct := Pv (i + 1), bk := D.nx } σ2 H2) (hd : ∀ σ H, Pv xs.length σ H → D.nx σ H) :
    ∃ W : Nat → Nat → St → Hp → Prop, (∃ m, W 0 m σ H) ∧ ∀ i m σ H, W i m σ H →
      ((Itl K a).stop i H ∧ D.nx σ H) ∨ ((Itl K a).go i H ∧ ∃ N : St → Hp → Prop, (∀ σ' H', N σ' H' → ∃ m', m' < m ∧ W (i + 1) m' σ' H') ∧ ∀ x H', (Itl K a).yld i H x H' → g x σ H' fun σ2 H2 => tb { D with nx := N, ct := N, bk := D.nx } σ2 H2) := by
  refine ⟨fun i m σ H => m = xs.length - i ∧ i ≤ xs.length ∧ Pv i σ H, ⟨xs.length, by simp, Nat.zero_le _, h0⟩, ?_⟩
  rintro i m σ H ⟨rfl, hi, p⟩
  have q := hl i σ H hi p
  by_cases hlt : i < xs.length
  · refine .inr ⟨⟨xs, xs[i], q, by simp [hlt]⟩, Pv (i + 1), fun σ' H' p' => ⟨xs.length - (i + 1), by omega, rfl, hlt, p'⟩, fun x H' y => ?_⟩
    obtain ⟨e, y⟩ := y
    subst e
    exact hs i x σ _ (y xs q) p
  · have e : i = xs.length := by omega
    subst e
    exact .inl ⟨⟨xs, q, Nat.le_refl _⟩, hd σ H p⟩
theorem for_range {lo : Int} {n : Nat} {g : TG} {tb : TS} {D : Ends} {σ : St} {H : Hp} (Pv : Nat → St → Hp → Prop) (h0 : Pv 0 σ H)
    (hs : ∀ i σ H, i < n → Pv i σ H → g (.int (lo + i)) σ H fun σ2 H2 => tb { D with nx := Pv (i + 1), ct := Pv (i + 1), bk := D.nx } σ2 H2) (hd : ∀ σ H, Pv n σ H → D.nx σ H) :
    ∃ W : Nat → Nat → St → Hp → Prop, (∃ m, W 0 m σ H) ∧ ∀ i m σ H, W i m σ H →
      ((Itr lo n).stop i H ∧ D.nx σ H) ∨ ((Itr lo n).go i H ∧ ∃ N : St → Hp → Prop, (∀ σ' H', N σ' H' → ∃ m', m' < m ∧ W (i + 1) m' σ' H') ∧ ∀ x H', (Itr lo n).yld i H x H' → g x σ H' fun σ2 H2 => tb { D with nx := N, ct := N, bk := D.nx } σ2 H2) := by
  refine ⟨fun i m σ H => m = n - i ∧ i ≤ n ∧ Pv i σ H, ⟨n, by simp, Nat.zero_le _, h0⟩, ?_⟩
  rintro i m σ H ⟨rfl, hi, p⟩
  by_cases hlt : i < n
  · refine .inr ⟨hlt, Pv (i + 1), fun σ' H' p' => ⟨n - (i + 1), by omega, rfl, hlt, p'⟩, fun x H' y => ?_⟩
    obtain ⟨e, y⟩ := y
    subst e y
    exact hs i σ _ hlt p
  · have e : i = n := by omega
    subst e
    exact .inl ⟨Nat.le_refl _, hd σ H p⟩
end L2

namespace L2
open PySem PySem.Spec PyProof.Rows

abbrev R2 := V → V → Hp → VK → Prop
/-- a two-place operation on values: f is binaryOp op, inplaceOp op or compareOp op -/
def OpR (X : Cx) (f : Value → Value → Sem Value) (r : R2) : Prop :=
  ∀ (pins : List (Addr × Obj)) (s : Shared) (σ : St) (H : Hp) (x y : V) (v u : Value) (Q : VK), Inv X pins σ H s → RelV x v → RelV y u → r x y H Q →
    wpAny (model X.prog X.w) X.A (f v u) (EP X pins σ Q) X.xe s
/-- a one-place operation -/
def UnR (X : Cx) (f : Value → Sem Value) (r : V → Hp → VK → Prop) : Prop :=
  ∀ (pins : List (Addr × Obj)) (s : Shared) (σ : St) (H : Hp) (x : V) (v : Value) (Q : VK), Inv X pins σ H s → RelV x v → r x H Q →
    wpAny (model X.prog X.w) X.A (f v) (EP X pins σ Q) X.xe s
/-- a call of a value that is known (a builtin, a type) with values -/
def CallR (X : Cx) (f : Value) (r : List V → Hp → VK → Prop) : Prop :=
  ∀ (pins : List (Addr × Obj)) (s : Shared) (σ : St) (H : Hp) (xs : List V) (us : List Value) (Q : VK), Inv X pins σ H s → Vals xs us → r xs H Q →
    wpAny (model X.prog X.w) X.A (call f us) (EP X pins σ Q) X.xe s
/-- a value's truth -/
def TruR (X : Cx) (r : V → Hp → (Bool → Hp → Prop) → Prop) : Prop :=
  ∀ (pins : List (Addr × Obj)) (s : Shared) (σ : St) (H : Hp) (x : V) (v : Value) (Q : Bool → Hp → Prop), Inv X pins σ H s → RelV x v → r x H Q →
    wpAny (model X.prog X.w) X.A (truthy v) (TP X pins σ Q) X.xe s

def tOp (r : R2) (ta tb : TE) : TE := fun σ H Q => ta σ H fun x H1 => tb σ H1 fun y H2 => r x y H2 Q
def tUn (r : V → Hp → VK → Prop) (ta : TE) : TE := fun σ H Q => ta σ H fun x H1 => r x H1 Q
/-- ints in, under C, and a value out -/
def rI (C : Int → Int → Prop) (g : Int → Int → V) : R2 := fun x y H Q => ∃ i j, x = .int i ∧ y = .int j ∧ C i j ∧ Q (g i j) H
def rI0 (g : Int → Int → V) : R2 := fun x y H Q => ∃ i j, x = .int i ∧ y = .int j ∧ Q (g i j) H
def rU (g : Int → V) : V → Hp → VK → Prop := fun x H Q => ∃ i, x = .int i ∧ Q (g i) H

section
variable {X : Cx} {a b c : Expr} {ta tb tc : TE} {pos : Pos}

theorem binT (ha : PE X a ta) (hb : PE X b tb) {pins : List (Addr × Obj)} {s : Shared} {σ : St} {H : Hp} {R : V → V → Hp → Prop} (I : Inv X pins σ H s)
    (h : ta σ H fun x H1 => tb σ H1 fun y H2 => R x y H2) {Q : Value → Shared → Prop} {f : Value → Value → Sem Value}
    (hf : ∀ v u s2 x y H2, Inv X pins σ H2 s2 → RelV x v → RelV y u → R x y H2 → wpAny (model X.prog X.w) X.A (f v u) Q X.xe s2) :
    wpAny (model X.prog X.w) X.A (eval a X.env) (fun v s₁ => wpAny (model X.prog X.w) X.A (eval b X.env) (fun u s₂ => wpAny (model X.prog X.w) X.A (f v u) Q X.xe s₂) X.xe s₁) X.xe s := by
  refine thn (ha pins s σ H _ I h) fun v s1 ⟨x, H1, I1, r1, q1⟩ => ?_
  refine thn (hb pins s1 σ H1 _ I1 q1) fun u s2 ⟨y, H2, I2, r2, q2⟩ => ?_
  exact hf v u s2 x y H2 I2 r1 r2 q2

theorem pe_op {op : Operator} {r : R2} (ho : OpR X (binaryOp op) r) (ha : PE X a ta) (hb : PE X b tb) : PE X (.BinOp a op b pos) (tOp r ta tb) := by
  intro pins s σ H Q I h
  exact wpAny_BinOp (binT ha hb I h fun v u s2 x y H2 I2 rx ry q => ho pins s2 σ H2 x y v u Q I2 rx ry q)
theorem pe_un {op : UnaryOp} {r : V → Hp → VK → Prop} (ho : UnR X (unaryOp op) r) (ha : PE X a ta) : PE X (.UnaryOp op a pos) (tUn r ta) := by
  intro pins s σ H Q I h
  exact UnaryOp_ (thn (ha pins s σ H _ I h) fun v s1 ⟨x, H1, I1, r1, q1⟩ => ho pins s1 σ H1 x v Q I1 r1 q1)
/-! ### ints -/
theorem opI {f : Value → Value → Sem Value} {C : Int → Int → Prop} {g : Int → Int → Int}
    (rule : ∀ (i j : Int) (t u : Tok) (s : Shared) (Q : Value → Shared → Prop) (E : Value → Shared → Prop), C i j → Q (.int (g i j) s.toks) { s with toks := s.toks + 1 } → wpAny (model X.prog X.w) X.A (f (.int i t) (.int j u)) Q E s) :
    OpR X f (rI C fun i j => .int (g i j)) := by
  intro pins s σ H x y v u Q I rx ry h
  obtain ⟨i, j, rfl, rfl, hc, q⟩ := h
  obtain ⟨t, rfl⟩ := rx
  obtain ⟨t', rfl⟩ := ry
  exact rule i j t t' s _ _ hc ⟨.int (g i j), H, I.tok _, ⟨_, rfl⟩, q⟩
theorem opI0 {f : Value → Value → Sem Value} {g : Int → Int → Int}
    (rule : ∀ (i j : Int) (t u : Tok) (s : Shared) (Q : Value → Shared → Prop) (E : Value → Shared → Prop), Q (.int (g i j) s.toks) { s with toks := s.toks + 1 } → wpAny (model X.prog X.w) X.A (f (.int i t) (.int j u)) Q E s) :
    OpR X f (rI0 fun i j => .int (g i j)) := by
  intro pins s σ H x y v u Q I rx ry h
  obtain ⟨i, j, rfl, rfl, q⟩ := h
  obtain ⟨t, rfl⟩ := rx
  obtain ⟨t', rfl⟩ := ry
  exact rule i j t t' s _ _ ⟨.int (g i j), H, I.tok _, ⟨_, rfl⟩, q⟩
theorem opB0 {f : Value → Value → Sem Value} {g : Int → Int → Bool}
    (rule : ∀ (i j : Int) (t u : Tok) (s : Shared) (Q : Value → Shared → Prop) (E : Value → Shared → Prop), Q (.bool (g i j)) s → wpAny (model X.prog X.w) X.A (f (.int i t) (.int j u)) Q E s) :
    OpR X f (rI0 fun i j => .bl (g i j)) := by
  intro pins s σ H x y v u Q I rx ry h
  obtain ⟨i, j, rfl, rfl, q⟩ := h
  obtain ⟨t, rfl⟩ := rx
  obtain ⟨t', rfl⟩ := ry
  exact rule i j t t' s _ _ ⟨.bl (g i j), H, I, rfl, q⟩

def CDiv (i j : Int) : Prop := 0 < j ∧ j < 1073741824
def CPow (i j : Int) : Prop := 0 ≤ j ∧ j ≤ 1000000 ∧ i.natAbs < 2 ^ 64
def CMul (i j : Int) : Prop := (-(2 ^ 64) < i ∧ i < 2 ^ 64) ∨ (-(2 ^ 64) < j ∧ j < 2 ^ 64)
theorem CMul.ok {i j : Int} (h : CMul i j) : IntMulOk i j := by
  rcases h with ⟨h1, h2⟩ | ⟨h1, h2⟩
  · exact .of_left (intBits_le_64 h1 h2)
  · exact .of_right (intBits_le_64 h1 h2)
theorem op_add : OpR X (binaryOp .Add) (rI0 fun i j => .int (i + j)) := opI0 fun _ _ _ _ _ _ _ q => add_int q
theorem op_sub : OpR X (binaryOp .Sub) (rI0 fun i j => .int (i - j)) := opI0 fun _ _ _ _ _ _ _ q => sub_int q
theorem op_mul : OpR X (binaryOp .Mult) (rI CMul fun i j => .int (i * j)) := opI fun _ _ _ _ _ _ _ hc q => mul_int q hc.ok
/-- // by a positive divisor -/
theorem op_fdiv : OpR X (binaryOp .FloorDiv) (rI CDiv fun i j => .int (i / j)) := opI fun i j _ _ _ _ _ hc q => by
  have h1 : (0 : Int) < j := hc.1
  have h2 : j < 1073741824 := hc.2
  exact floordiv_int (by omega) (by rw [Int.fdiv_eq_ediv_of_nonneg i (by omega)]; exact q) (.inl (PyProof.noPylong_small (by omega)))
/-- % by a positive divisor of any size -/
theorem op_mod : OpR X (binaryOp .Mod) (rI (fun _ j => 0 < j) fun i j => .int (i % j)) := opI fun i j _ _ _ _ _ hc q => by
  have h1 : (0 : Int) < j := hc
  exact mod_int' (by omega) (by rw [Int.fmod_eq_emod_of_nonneg i (by omega)]; exact q)
theorem op_pow : OpR X (binaryOp .Pow) (rI CPow fun i j => .int (i ^ j.toNat)) := opI fun _ _ _ _ _ _ _ hc q => pow_int_small hc.1 hc.2.1 hc.2.2 q
theorem unI {f : Value → Sem Value} {g : Int → Int}
    (rule : ∀ (i : Int) (t : Tok) (s : Shared) (Q : Value → Shared → Prop) (E : Value → Shared → Prop), Q (.int (g i) s.toks) { s with toks := s.toks + 1 } → wpAny (model X.prog X.w) X.A (f (.int i t)) Q E s) :
    UnR X f (rU fun i => .int (g i)) := by
  intro pins s σ H x v Q I rx h
  obtain ⟨i, rfl, q⟩ := h
  obtain ⟨t, rfl⟩ := rx
  exact rule i t s _ _ ⟨.int (g i), H, I.tok _, ⟨_, rfl⟩, q⟩
theorem un_neg : UnR X (unaryOp .USub) (rU fun i => .int (-i)) := unI fun _ _ _ _ _ q => neg_int q
/-! ### bools among ints: n += (a < b) -/
end

/-! ### comparisons -/
/-- the scalars that == tells apart as data does -/
def scal : V → V → Bool
  | .non, .non => true | .non, .int _ => true | .int _, .non => true | .non, .bl _ => true | .bl _, .non => true | .non, .str _ => true | .str _, .non => true
  | .int _, .int _ => true | .bl _, .bl _ => true | .str _, .str _ => true | .byt _, .byt _ => true
  | .int _, .str _ => true | .str _, .int _ => true | .bl _, .str _ => true | .str _, .bl _ => true
  | _, _ => false
def rEq : R2 := fun x y H Q => scal x y = true ∧ Q (.bl (decide (x = y))) H
def rNe : R2 := fun x y H Q => scal x y = true ∧ Q (.bl (!decide (x = y))) H

theorem dec_int {i j : Int} : decide (V.int i = V.int j) = (i == j) := by
  rw [Bool.eq_iff_iff]
  simp
theorem dec_bl {i j : Bool} : decide (V.bl i = V.bl j) = (i == j) := by
  rw [Bool.eq_iff_iff]
  simp
theorem dec_str {i j : Str} : decide (V.str i = V.str j) = (i == j) := by
  rw [Bool.eq_iff_iff]
  simp
theorem dec_byt {i j : Array UInt8} : decide (V.byt i = V.byt j) = (i.toList == j.toList) := by
  rw [Bool.eq_iff_iff]
  cases i
  cases j
  simp

section
variable {X : Cx} {a b c : Expr} {ta tb tc : TE} {pos : Pos}
theorem fin_bl {pins : List (Addr × Obj)} {σ : St} {H : Hp} {s : Shared} {Q : VK} {k k' : Bool} (I : Inv X pins σ H s) (q : Q (.bl k) H) (e : k = k') : EP X pins σ Q (.bool k') s := by
  subst e
  exact ⟨.bl k, H, I, rfl, q⟩
theorem op_eq : OpR X (compareOp .Eq) rEq := by
  intro pins s σ H x y v u Q I rx ry h
  obtain ⟨hs, q⟩ := h
  cases x with
  | non =>
    cases rx
    cases y with
    | non => cases ry; exact PySem.EqNone.eq_none_none (fin_bl I q (by simp))
    | bl j => cases ry; exact PySem.EqNone.eq_none_bool (fin_bl I q (by simp))
    | int j => obtain ⟨t', rfl⟩ := ry; exact PySem.EqNone.eq_none_int (fin_bl I q (by simp))
    | str j => obtain ⟨t', rfl⟩ := ry; exact PySem.EqNone.eq_none_str (fin_bl I q (by simp))
    | _ => exact absurd (show false = true from hs) Bool.false_ne_true
  | bl i =>
    cases rx
    cases y with
    | non => cases ry; exact PySem.EqNone.eq_bool_none (fin_bl I q (by simp))
    | bl j => cases ry; exact eq_bool (fin_bl I q dec_bl)
    | str j => obtain ⟨t', rfl⟩ := ry; exact PySem.EqMixed.eq_bool_str (fin_bl I q (by simp))
    | _ => exact absurd (show false = true from hs) Bool.false_ne_true
  | int i =>
    obtain ⟨t, rfl⟩ := rx
    cases y with
    | non => cases ry; exact PySem.EqNone.eq_int_none (fin_bl I q (by simp))
    | int j => obtain ⟨t', rfl⟩ := ry; exact eq_int (fin_bl I q dec_int)
    | str j => obtain ⟨t', rfl⟩ := ry; exact PySem.EqMixed.eq_int_str (fin_bl I q (by simp))
    | _ => exact absurd (show false = true from hs) Bool.false_ne_true
  | str i =>
    obtain ⟨t, rfl⟩ := rx
    cases y with
    | non => cases ry; exact PySem.EqNone.eq_str_none (fin_bl I q (by simp))
    | bl j => cases ry; exact PySem.EqMixed.eq_str_bool (fin_bl I q (by simp))
    | int j => obtain ⟨t', rfl⟩ := ry; exact PySem.EqMixed.eq_str_int (fin_bl I q (by simp))
    | str j => obtain ⟨t', rfl⟩ := ry; exact eq_str (fin_bl I q dec_str)
    | _ => exact absurd (show false = true from hs) Bool.false_ne_true
  | byt i =>
    obtain ⟨t, rfl⟩ := rx
    cases y with
    | byt j => obtain ⟨t', rfl⟩ := ry; exact PySem.W.eq_bytes (fin_bl I q dec_byt)
    | _ => exact absurd (show false = true from hs) Bool.false_ne_true
  | _ => cases y <;> exact absurd (show false = true from hs) Bool.false_ne_true
theorem op_ne : OpR X (compareOp .NotEq) rNe := by
  intro pins s σ H x y v u Q I rx ry h
  obtain ⟨hs, q⟩ := h
  cases x with
  | non =>
    cases rx
    cases y with
    | non => cases ry; exact PySem.EqNone.ne_none_none (fin_bl I q (by simp))
    | bl j => cases ry; exact PySem.EqNone.ne_none_bool (fin_bl I q (by simp))
    | int j => obtain ⟨t', rfl⟩ := ry; exact PySem.EqNone.ne_none_int (fin_bl I q (by simp))
    | str j => obtain ⟨t', rfl⟩ := ry; exact PySem.EqNone.ne_none_str (fin_bl I q (by simp))
    | _ => exact absurd (show false = true from hs) Bool.false_ne_true
  | bl i =>
    cases rx
    cases y with
    | non => cases ry; exact PySem.EqNone.ne_bool_none (fin_bl I q (by simp))
    | bl j => cases ry; exact ne_bool (fin_bl I q (congrArg not dec_bl))
    | str j => obtain ⟨t', rfl⟩ := ry; exact PySem.EqMixed.ne_bool_str (fin_bl I q (by simp))
    | _ => exact absurd (show false = true from hs) Bool.false_ne_true
  | int i =>
    obtain ⟨t, rfl⟩ := rx
    cases y with
    | non => cases ry; exact PySem.EqNone.ne_int_none (fin_bl I q (by simp))
    | int j => obtain ⟨t', rfl⟩ := ry; exact ne_int (fin_bl I q (congrArg not dec_int))
    | str j => obtain ⟨t', rfl⟩ := ry; exact PySem.EqMixed.ne_int_str (fin_bl I q (by simp))
    | _ => exact absurd (show false = true from hs) Bool.false_ne_true
  | str i =>
    obtain ⟨t, rfl⟩ := rx
    cases y with
    | non => cases ry; exact PySem.EqNone.ne_str_none (fin_bl I q (by simp))
    | bl j => cases ry; exact PySem.EqMixed.ne_str_bool (fin_bl I q (by simp))
    | int j => obtain ⟨t', rfl⟩ := ry; exact PySem.EqMixed.ne_str_int (fin_bl I q (by simp))
    | str j => obtain ⟨t', rfl⟩ := ry; exact ne_str (fin_bl I q (congrArg not dec_str))
    | _ => exact absurd (show false = true from hs) Bool.false_ne_true
  | byt i =>
    obtain ⟨t, rfl⟩ := rx
    cases y with
    | byt j => obtain ⟨t', rfl⟩ := ry; exact PySem.W.ne_bytes (fin_bl I q (congrArg not dec_byt))
    | _ => exact absurd (show false = true from hs) Bool.false_ne_true
  | _ => cases y <;> exact absurd (show false = true from hs) Bool.false_ne_true

theorem op_lt : OpR X (compareOp .Lt) (rI0 fun i j => .bl (decide (i < j))) := opB0 fun _ _ _ _ _ _ _ q => lt_int q
theorem op_le : OpR X (compareOp .LtE) (rI0 fun i j => .bl (decide (i ≤ j))) := opB0 fun _ _ _ _ _ _ _ q => le_int q
theorem op_gt : OpR X (compareOp .Gt) (rI0 fun i j => .bl (decide (j < i))) := opB0 fun _ _ _ _ _ _ _ q => gt_int q
theorem op_ge : OpR X (compareOp .GtE) (rI0 fun i j => .bl (decide (j ≤ i))) := opB0 fun _ _ _ _ _ _ _ q => ge_int q
/-- is None, is not None: the right side a value none -/
theorem op_isN : OpR X (compareOp .Is) (fun x y H Q => y = .non ∧ Q (.bl (decide (x = .non))) H) := by
  intro pins s σ H x y v u Q I rx ry h
  obtain ⟨rfl, q⟩ := h
  cases ry
  refine is_none_gen (fin_bl I q ?_)
  cases x <;> first
    | (cases rx; rfl)
    | (obtain ⟨t, rfl⟩ := rx; rfl)
theorem op_notN : OpR X (compareOp .IsNot) (fun x y H Q => y = .non ∧ Q (.bl (!decide (x = .non))) H) := by
  intro pins s σ H x y v u Q I rx ry h
  obtain ⟨rfl, q⟩ := h
  cases ry
  refine isnot_none_gen (fin_bl I q ?_)
  cases x <;> first
    | (cases rx; rfl)
    | (obtain ⟨t, rfl⟩ := rx; rfl)

/-- two rules for one operation: by cases -/
theorem OpR.or {f : Value → Value → Sem Value} {r r' : R2} (h : OpR X f r) (h' : OpR X f r') : OpR X f (fun x y H Q => r x y H Q ∨ r' x y H Q) := by
  intro pins s σ H x y v u Q I rx ry q
  rcases q with q | q
  · exact h pins s σ H x y v u Q I rx ry q
  · exact h' pins s σ H x y v u Q I rx ry q

theorem nomark (b : Expr) {op : CmpOp} (h : op ≠ .In := by decide) (h2 : op ≠ .NotIn := by decide) : behindInMarks op b = false := by
  have e1 : (op == CmpOp.In) = false := by cases op <;> first | rfl | exact absurd rfl h
  have e2 : (op == CmpOp.NotIn) = false := by cases op <;> first | rfl | exact absurd rfl h2
  cases b <;> simp [behindInMarks, e1, e2]
/-- a comparison as a value; hm: nomark b, or (for in, not in) by with_unfolding_all rfl -/
theorem pe_cmpR {op : CmpOp} {r : R2} (ho : OpR X (compareOp op) r) (ha : PE X a ta) (hb : PE X b tb) (hm : behindInMarks op b = false) : PE X (.Compare a [op] [b] pos) (tOp r ta tb) := by
  intro pins s σ H Q I h
  exact wpAny_Compare1 (binT ha hb I h fun v u s2 x y H2 I2 rx ry q => ho pins s2 σ H2 x y v u Q I2 rx ry q) hm
/-- a reading of a value as a test -/
def tTest (t : TE) : TT := fun σ H Q => t σ H fun x H' => ∃ k, x = .bl k ∧ Q k H'
theorem pt_cmpR {op : CmpOp} {r : R2} (ho : OpR X (compareOp op) r) (ha : PE X a ta) (hb : PE X b tb) (hm : behindInMarks op b = false) : PT X (.Compare a [op] [b] pos) (tTest (tOp r ta tb)) := by
  intro pins s σ H Q I h
  refine wpAny_isTrue_Compare1 (thn (ha pins s σ H _ I h) fun v s1 ⟨x, H1, I1, r1, q1⟩ => thn (hb pins s1 σ H1 _ I1 q1) fun u s2 ⟨y, H2, I2, r2, q2⟩ =>
    thn (ho pins s2 σ H2 x y v u _ I2 r1 r2 q2) fun c s3 ⟨z, H3, I3, r3, k, e, q3⟩ => ?_) hm
  subst e
  cases r3
  exact wpAny_truthy_bool ⟨H3, I3, q3⟩
/-- a op1 b op2 c -/
def tChain (r r' : R2) (ta tb tc : TE) : TE := fun σ H Q => ta σ H fun x H1 => tb σ H1 fun y H2 => r x y H2 fun z H3 => ∃ k, z = .bl k ∧
  (if k = true then tc σ H3 fun w' H4 => r' y w' H4 Q else Q (.bl false) H3)
theorem pe_chain {op op' : CmpOp} {r r' : R2} (ho : OpR X (compareOp op) r) (ho' : OpR X (compareOp op') r') (ha : PE X a ta) (hb : PE X b tb) (hc : PE X c tc)
    (hm : lastMarks [op, op'] [b, c] = false := by with_unfolding_all rfl) : PE X (.Compare a [op, op'] [b, c] pos) (tChain r r' ta tb tc) := by
  intro pins s σ H Q I h
  refine Compare_chain (thn (ha pins s σ H _ I h) fun v s1 ⟨x, H1, I1, r1, q1⟩ => chain_link (thn (hb pins s1 σ H1 _ I1 q1) fun u s2 ⟨y, H2, I2, r2, q2⟩ =>
    thn (ho pins s2 σ H2 x y v u _ I2 r1 r2 q2) fun d s3 ⟨z, H3, I3, r3, k, e, q3⟩ => ?_)) hm
  subst e
  cases r3
  refine wpAny_truthy_bool ?_
  cases k with
  | false => exact ite_ff ⟨.bl false, H3, I3, rfl, q3⟩
  | true => exact ite_tt (chain_last (thn (hc pins s3 σ H3 _ I3 q3) fun w' s4 ⟨z', H4, I4, r4, q4⟩ => ho' pins s4 σ H4 y z' u w' Q I4 r2 r4 q4))
/-! ### truth -/
/-- a value's truth by the abstract heap -/
def TruV (K : PySem.W.Frag) (x : V) (H : Hp) (k : Bool) : Prop :=
  match x with
  | .non => k = false
  | .bl b => k = b
  | .int i => k = (i != 0)
  | .str y => y.length ≤ sizeLine ∧ k = ((y.length : Int) != 0)
  | .byt y => y.size ≤ sizeLine ∧ k = ((y.size : Int) != 0)
  | .ref p => (∃ xs, SqL K H p xs ∧ k = !xs.isEmpty) ∨ (∃ xs, SqT K H p xs ∧ k = !xs.isEmpty) ∨ ∃ kvs, H p = some (.dK kvs) ∧ k = !kvs.isEmpty
  | _ => False
theorem isEmpty_kv {κ : Type} {kvs : List (κ × V)} {vs : List (κ × Value)} (r : KV kvs vs) : (!vs.isEmpty) = !kvs.isEmpty := by
  cases r <;> rfl
theorem isEmpty_of {xs : List V} {its : List Value} (r : Vals xs its) : (!its.toArray.isEmpty) = !xs.isEmpty := by
  cases r <;> simp
theorem line63 : (sizeLine : Nat) < 2 ^ 63 := by rw [sizeLine_eq]; decide
theorem tru_ok : TruR X (fun x H Q => ∃ k, TruV X.K x H k ∧ Q k H) := by
  intro pins s σ H x v Q I rx h
  obtain ⟨k, e, q⟩ := h
  have hl := line63
  have hs : sizeLine = 16777216 := sizeLine_eq
  cases x with
  | non =>
    cases rx
    have e' : k = false := e
    subst e'
    exact truthy_none ⟨H, I, q⟩
  | bl b =>
    cases rx
    have e' : k = b := e
    subst e'
    exact wpAny_truthy_bool ⟨H, I, q⟩
  | int i =>
    obtain ⟨t, rfl⟩ := rx
    have e' : k = (i != 0) := e
    subst e'
    exact PySem.P.truthy_int ⟨H, I, q⟩
  | str y =>
    obtain ⟨t, rfl⟩ := rx
    obtain ⟨hy, e'⟩ : y.length ≤ sizeLine ∧ k = ((y.length : Int) != 0) := e
    subst e'
    exact PySem.P.truthy_str (by omega) ⟨H, I.tok _, q⟩
  | byt y =>
    obtain ⟨t, rfl⟩ := rx
    obtain ⟨hy, e'⟩ : y.size ≤ sizeLine ∧ k = ((y.size : Int) != 0) := e
    subst e'
    exact PySem.W.truthy_bytes (by omega) ⟨H, I.tok _, q⟩
  | ref p =>
    cases rx
    have e' : (∃ xs, SqL X.K H p xs ∧ k = !xs.isEmpty) ∨ (∃ xs, SqT X.K H p xs ∧ k = !xs.isEmpty) ∨ ∃ kvs, H p = some (.dK kvs) ∧ k = !kvs.isEmpty := e
    rcases e' with ⟨xs, hx, e'⟩ | ⟨xs, hx, e'⟩ | ⟨kvs, hx, e'⟩
    · subst e'
      obtain ⟨its, r, pl, hz⟩ := I.list hx
      have hlen := r.length
      exact wpAny_truthy_list pl.isList (by simp only [List.size_toArray]; omega) ⟨H, I.tok _, by rw [isEmpty_of r]; exact q⟩
    · subst e'
      obtain ⟨its, r, pl, hz⟩ := I.tuple hx
      have hlen := r.length
      exact truthy_tuple pl (by simp only [List.size_toArray]; omega) ⟨H, I.tok _, by rw [isEmpty_of r]; exact q⟩
    · subst e'
      obtain ⟨hz, hS, vs, r, m⟩ : kvs.length ≤ sizeLine ∧ (p == sysModules) = false ∧ ∃ vs, KV kvs vs ∧ s.heap.DictOf (mixKind X.prog X.w) p vs := I.hok p _ hx
      have hlen : kvs.length = vs.length := Paired.length r
      exact wpAny_truthy_dict hS m (by omega) ⟨H, I.tok _, by rw [isEmpty_kv r]; exact q⟩
  | _ => exact (show False from e).elim
/-- any expression whose test is its value's truth (a name, a call, a subscript, a field ..: he by fun _ => rfl) -/
theorem pt_truth (ha : PE X a ta) (he : ∀ whole, isTrue a X.env whole = (do let v ← whole; standAt a.pos; holding [v] (truthy v))) :
    PT X a (fun σ H Q => ta σ H fun x H' => ∃ k, TruV X.K x H' k ∧ Q k H') := by
  intro pins s σ H Q I h
  exact isTrue_plain (thn (ha pins s σ H _ I h) fun v s1 ⟨x, H1, I1, r1, q1⟩ => tru_ok pins s1 σ H1 x v Q I1 r1 q1) (he _)

/-! ### strs and bytes -/
/-! ### scalar builtins, by CallR -/
theorem vals1 {x : V} {us : List Value} (r : Vals [x] us) : ∃ u, us = [u] ∧ RelV x u := by
  cases r with
  | cons r1 r2 => cases r2; exact ⟨_, rfl, r1⟩
theorem vals2 {x y : V} {us : List Value} (r : Vals [x, y] us) : ∃ u w', us = [u, w'] ∧ RelV x u ∧ RelV y w' := by
  cases r with
  | cons r1 r2 =>
    cases r2 with
    | cons r3 r4 => cases r4; exact ⟨_, _, rfl, r1, r3⟩
end
end L2

namespace L2
open PySem PySem.Spec PyProof.Rows

/-! ### an instance, its attributes a map -/
structure ObjM (h : Heap) (x dx C : Addr) (mA : Str → Option Value) : Prop where
  obj : h.get? x = some (PySem.W.instObj C dx)
  ns : h.Ns1 dx mA
  ne : dx ≠ x

theorem lookIn_ns {h : Heap} {dx : Addr} {mA : Str → Option Value} (n : h.Ns1 dx mA) : ∃ od, h.get? dx = some od ∧ ∀ name, PySem.W.lookIn name od = some (mA name) := by
  obtain ⟨o, es, ep, ho, hd, hk, _, hm⟩ := n
  refine ⟨o, ho, fun name => ?_⟩
  have e := hm name
  unfold nsFind findBy at e
  rw [← Array.find?_toList] at e
  unfold PySem.W.lookIn
  rw [hd]
  dsimp only
  split
  · rename_i y q
    rw [q] at e
    exact congrArg some e
  · rename_i q
    rw [q] at e
    have a : es.toList.any (·.refKey) = false := by
      rw [List.any_eq_false]
      intro y hy
      obtain ⟨z, t, hkey⟩ := hk y (Array.mem_toList_iff.mp hy)
      simp [DictEntry.refKey, hkey]
    have a' : ¬ es.toList.any (·.refKey) = true := by rw [a]; exact Bool.false_ne_true
    rw [if_neg a']
    exact congrArg some e

theorem ObjM.look {h : Heap} {x dx C : Addr} {mA : Str → Option Value} (I : ObjM h x dx C mA) : ∃ od, PySem.W.InstAt h x (PySem.W.instObj C dx) C (some od) ∧ ∀ name, PySem.W.lookIn name od = some (mA name) :=
  let ⟨od, ho, hl⟩ := lookIn_ns I.ns
  ⟨od, ⟨I.obj, rfl, rfl, ho⟩, hl⟩

section
variable {prog : Program} {w : World} {A : Around} {E : Value → Shared → Prop} {s : Shared} {K : PySem.W.Frag} {x dx C f : Addr} {mA : Str → Option Value} {name : Str} {v : Value}

theorem get_map {expr : Bool} {Q : Value → Shared → Prop} (X : K.In s.heap) (I : ObjM s.heap x dx C mA) (hg : PySem.W.plainGet K C name = true) (hh : PySem.W.hasDictIn K C = true)
    (ha : PySem.W.findIn K (.ref C) name = some none) (hv : mA name = some v) (hv' : PySem.W.handedIn v = true) (h : Q v { s with toks := s.toks + 1 }) :
    wpAny (model prog w) A (getAttr (.ref x) name expr) Q E s := by
  obtain ⟨od, J, hl⟩ := I.look
  exact PySem.W.get_value X J (PySem.W.plainGet_of hg).1 (PySem.W.findObj_own hh ha rfl (by rw [hl, hv])) hv' h

theorem get_meth {pl : Sem Bool} {Q : Value × List Value → Shared → Prop} (X : K.In s.heap) (I : ObjM s.heap x dx C mA) (hg : PySem.W.plainGet K C name = true)
    (hf : PySem.W.findIn K (.ref C) name = some (some (.ref f))) (ht : PySem.W.isFn K (.ref f) = true) (hv : mA name = none) (h : Q (.ref f, [.ref x]) s) :
    wpAny (model prog w) A (getMethod (.ref x) name pl) Q E s := by
  obtain ⟨od, J, hl⟩ := I.look
  exact PySem.W.method_fn X J (PySem.W.plainGet_of hg).1 (PySem.W.plainGet_of hg).2 hf (beq_iff_eq.mp ht) (by show (PySem.W.lookIn name od).map (·.isSome) = some false; rw [hl, hv]; rfl) h

theorem set_map {ns : List Str} {Q : Unit → Shared → Prop} (X : K.In s.heap) (I : ObjM s.heap x dx C mA)
    (hs : PySem.W.findIn K (.ref C) "__setattr__" = some (some (.builtin "object.__setattr__"))) (hp : PySem.W.plainOver K C = true) (ht : PySem.W.takerIn K C name = some none) (hh : PySem.W.hasDictIn K C = true)
    (hw : PySem.Within mA ns) (hsz : ns.length ≤ sizeLine)
    (h : ∀ h', ObjM h' x dx C (fun y => if y = name then some v else mA y) → Heap.SameBut dx s.heap h' → Q () { s with heap := h', toks := s.toks + 2 }) :
    wpAny (model prog w) A (setAttr (.ref x) name v) Q E s := by
  obtain ⟨od, J, hl⟩ := I.look
  refine PySem.W.set_plain X J hs (PySem.W.osa_open (s := { s with toks := s.toks + 1 }) (r := none) X J hp ht fun b => ?_)
  obtain ⟨cd, hc, hd'⟩ := PySem.W.any_some hh
  have hx : s.heap.get? x = some ⟨.ref C, some dx, .plain, #[]⟩ := I.obj
  refine wpAny_bind (wpAny_pure (wpAny_bind (wpAny_bind (wpAny_loadPart hx (wpAny_bind (PySem.W.Looks.here (s := { s with toks := s.toks + 1 }) (PySem.W.looks_clsIn X hc) ?_))))))
  rw [hd']
  refine wpAny_pure (a := some dx) (wpAny_bind (wpAny_pure (wpAny_bind ?_)))
  refine wpAny_nsSet1 (s := { s with toks := s.toks + 1 }) I.ns fun h' hn2 hs2 => ?_
  obtain ⟨oD, esD, epD, hoD, hdD, hcD⟩ := hn2.count (PySem.Within.cons name v hw)
  refine wpAny_bind (wpAny_lookBehind hoD (by rw [hdD]; exact pastItsLine_dict (Nat.le_trans hcD (by rw [List.length_cons]; omega))) ?_)
  exact wpAny_pure (h _ ⟨(hs2.2 _ (Ne.symm I.ne)).trans I.obj, hn2, I.ne⟩ hs2)

/-- C(..): the dict at the heap's end, the instance behind it; then its __init__ -/
theorem make_map {R : Result → Shared → Prop} {vs : List Value} {kw : List (Str × Value)} (X : K.In s.heap) (hm : PySem.W.makesIn K C = true)
    (hi : PySem.W.findIn K (.ref C) "__init__" = some (some (.ref f))) (hf : PySem.W.typeIn K (.ref f) = some (.type "function"))
    (h : codeAny (model prog w) (A.under (.builtin "type.__call__" ⟨.ref C :: vs, kw⟩)) (.call (.ref f) ⟨.ref (s.heap.objs.size + 1) :: vs, kw⟩) (PySem.W.InitBack (s.heap.objs.size + 1) R)
      { s with heap := (s.heap.push PySem.W.emptyDict).push (PySem.W.instObj C s.heap.objs.size) }) :
    codeAny (model prog w) A (.call (.ref C) ⟨vs, kw⟩) R s := by
  obtain ⟨hh, g, d, t, os⟩ := s
  exact PySem.W.make_core (PySem.W.makes_of X hm) (PySem.W.looks_findIn X hi) (fun self => PySem.W.bind_fn X self hf) (.inl rfl) h
end

/-! ### the attributes as a list of pairs -/
def putF (f : Str) (v : V) : List (Str × V) → List (Str × V)
  | [] => [(f, v)]
  | (g, x) :: r => if g = f then (g, v) :: r else (g, x) :: putF f v r
theorem lookup_putF (f g : Str) (v : V) : ∀ fs : List (Str × V), (putF f v fs).lookup g = if g = f then some v else fs.lookup g
  | [] => by
    show List.lookup g [(f, v)] = _
    by_cases h : g = f
    · have hb : (g == f) = true := beq_iff_eq.mpr h
      simp only [List.lookup, hb, if_pos h]
    · have hb : (g == f) = false := beq_eq_false_iff_ne.mpr h
      simp only [List.lookup, hb, if_neg h]
  | (k, x) :: r => by
    have ih := lookup_putF f g v r
    rw [show putF f v ((k, x) :: r) = (if k = f then (k, v) :: r else (k, x) :: putF f v r) from rfl]
    by_cases hk : k = f
    · rw [if_pos hk]
      by_cases h : g = k
      · have hb : (g == k) = true := beq_iff_eq.mpr h
        simp only [List.lookup, hb, if_pos (h.trans hk)]
      · have hb : (g == k) = false := beq_eq_false_iff_ne.mpr h
        simp only [List.lookup, hb, if_neg (fun e : g = f => h (e.trans hk.symm))]
    · rw [if_neg hk]
      by_cases h : g = k
      · have hb : (g == k) = true := beq_iff_eq.mpr h
        simp only [List.lookup, hb, if_neg (fun e : g = f => hk (h.symm.trans e))]
      · have hb : (g == k) = false := beq_eq_false_iff_ne.mpr h
        simp only [List.lookup, hb]
        exact ih
theorem keys_putF (f : Str) (v : V) : ∀ fs : List (Str × V), f ∈ (putF f v fs).map (·.1) ∧ ∀ g, g ∈ fs.map (·.1) → g ∈ (putF f v fs).map (·.1)
  | [] => ⟨by simp [putF], fun g h => by simp at h⟩
  | (k, x) :: r => by
    obtain ⟨i1, i2⟩ := keys_putF f v r
    rw [show putF f v ((k, x) :: r) = (if k = f then (k, v) :: r else (k, x) :: putF f v r) from rfl]
    by_cases hk : k = f
    · rw [if_pos hk]
      subst hk
      exact ⟨by simp, fun g h => by simpa using h⟩
    · rw [if_neg hk]
      refine ⟨?_, fun g h => ?_⟩
      · rw [List.map_cons]
        exact List.mem_cons_of_mem _ i1
      · rw [List.map_cons] at h ⊢
        rcases List.mem_cons.mp h with e | e
        · exact List.mem_cons.mpr (.inl e)
        · exact List.mem_cons_of_mem _ (i2 g e)
theorem length_putF (f : Str) (v : V) : ∀ fs : List (Str × V), (putF f v fs).length ≤ fs.length + 1
  | [] => by simp [putF]
  | (k, x) :: r => by
    have ih := length_putF f v r
    rw [show putF f v ((k, x) :: r) = (if k = f then (k, v) :: r else (k, x) :: putF f v r) from rfl]
    by_cases hk : k = f
    · rw [if_pos hk, List.length_cons, List.length_cons]; omega
    · rw [if_neg hk, List.length_cons, List.length_cons]; omega

theorem RelO.some_of {v : V} {o : Option Value} (r : RelO (some v) o) : ∃ u, o = some u ∧ RelV v u := by
  cases o with
  | none => exact (show False from r).elim
  | some u => exact ⟨u, rfl, r⟩
theorem RelO.none_of {o : Option Value} (r : RelO none o) : o = none := by
  cases o with
  | none => rfl
  | some u => exact (show False from r).elim
theorem handed_of {v : V} {u : Value} (r : RelV v u) : PySem.W.handedIn u = true := by
  cases v with
  | non => cases (show u = Value.none from r); rfl
  | bl b => cases (show u = Value.bool b from r); rfl
  | int i => obtain ⟨t, e⟩ := (show ∃ t, u = Value.int i t from r); cases e; rfl
  | str x => obtain ⟨t, e⟩ := (show ∃ t, u = Value.str x t from r); cases e; rfl
  | byt b => obtain ⟨t, e⟩ := (show ∃ t, u = Value.bytes b t from r); cases e; rfl
  | flt b => obtain ⟨t, e⟩ := (show ∃ t, u = Value.float b t from r); cases e; rfl
  | ref a => cases (show u = Value.ref a from r); rfl
  | ty n => cases (show u = Value.type n from r); rfl

section
variable {P : Program} {w : World} {H H' : Hp} {h h' : Heap} {a C dx : Addr} {fs fs' : List (Str × V)}
theorem ins_get (hok : HOk P w H h) (e : H a = some (.ins C dx fs)) : ∃ mA, ObjM h a dx C mA ∧ (∀ f, RelO (fs.lookup f) (mA f)) ∧ PySem.Within mA (fs.map (·.1)) ∧ fs.length ≤ 1000 ∧ H dx = some (.own a) := by
  obtain ⟨d, z, ne, ob, mA, n, r, q⟩ := (show ObjOk P w H h a (.ins C dx fs) from hok a _ e)
  exact ⟨mA, ⟨ob, n, ne⟩, r, q, z, d⟩
end

/-! ### what of the text a class must have -/
structure Cls (K : PySem.W.Frag) (C : Addr) : Prop where
  pg : PySem.W.plainGet K C Str.empty = true
  hd : PySem.W.hasDictIn K C = true
  po : PySem.W.plainOver K C = true
  sa : PySem.W.findIn K (.ref C) "__setattr__" = some (some (.builtin "object.__setattr__"))
theorem Cls.get {K : PySem.W.Frag} {C : Addr} (c : Cls K C) (f : Str) : PySem.W.plainGet K C f = true := c.pg
/-- no class of it has the name -/
def NoAttr (K : PySem.W.Frag) (C : Addr) (f : Str) : Prop := PySem.W.findIn K (.ref C) f = some none
theorem NoAttr.taker {K : PySem.W.Frag} {C : Addr} {f : Str} (n : NoAttr K C f) : PySem.W.takerIn K C f = some none := by
  unfold PySem.W.takerIn
  rw [show PySem.W.findIn K (.ref C) f = some none from n]
  rfl
/-- a constant of the class -/
structure Con (K : PySem.W.Frag) (C : Addr) (f : Str) (v : V) (u : Value) : Prop where
  at_ : PySem.W.findIn K (.ref C) f = some (some u)
  rel : RelV v u
  get : PySem.W.specialIn K u "__get__" = some none
  cp : PySem.W.copiedNames.contains f = false
/-- a method: a plain def of the class or of one above it -/
structure Meth (K : PySem.W.Frag) (C : Addr) (m : Str) (f : Addr) : Prop where
  at_ : PySem.W.findIn K (.ref C) m = some (some (.ref f))
  fn : PySem.W.isFn K (.ref f) = true
  kp : PySem.W.keepIn K (.ref f) = true

section
variable {X : Cx} {pins : List (Addr × Obj)} {σ : St} {H : Hp} {s : Shared} {a C dx : Addr} {fs : List (Str × V)} {f : Str} {v : V} {A : Around} {E : Value → Shared → Prop}

theorem getattr_ok {b : Bool} {Q : Value → Shared → Prop} (I : Inv X pins σ H s) (e : H a = some (.ins C dx fs)) (c : Cls X.K C) (n : NoAttr X.K C f) (l : fs.lookup f = some v)
    (h : ∀ u s', Inv X pins σ H s' → RelV v u → Q u s') : wpAny (model X.prog X.w) A (getAttr (.ref a) f b) Q E s := by
  obtain ⟨mA, O, r, _, _, _⟩ := ins_get I.hok e
  obtain ⟨u, hu, ru⟩ := RelO.some_of (v := v) (o := mA f) (by rw [← l]; exact r f)
  exact get_map I.kIn O (c.get f) c.hd n hu (handed_of ru) (h u _ (I.tok _) ru)

theorem getmeth_ok {m : Str} {g : Addr} {pl : Sem Bool} {Q : Value × List Value → Shared → Prop} (I : Inv X pins σ H s) (e : H a = some (.ins C dx fs)) (c : Cls X.K C) (k : Meth X.K C m g) (l : fs.lookup m = none)
    (h : Q (.ref g, [.ref a]) s) : wpAny (model X.prog X.w) A (getMethod (.ref a) m pl) Q E s := by
  obtain ⟨mA, O, r, _, _, _⟩ := ins_get I.hok e
  have hn : mA m = none := RelO.none_of (by rw [← l]; exact r m)
  exact get_meth I.kIn O (c.get m) k.at_ k.fn hn h

theorem setattr_ok {y : V} {u : Value} {Q : Unit → Shared → Prop} (I : Inv X pins σ H s) (e : H a = some (.ins C dx fs)) (c : Cls X.K C) (n : NoAttr X.K C f) (hl : fs.length < 1000) (ry : RelV y u)
    (h : ∀ s', Inv X pins σ (upd H a (.ins C dx (putF f y fs))) s' → Q () s') : wpAny (model X.prog X.w) A (setAttr (.ref a) f u) Q E s := by
  obtain ⟨mA, O, r, wi, _, ho⟩ := ins_get I.hok e
  have hz : (fs.map (·.1)).length ≤ sizeLine := by rw [List.length_map, sizeLine_eq]; omega
  refine set_map I.kIn O c.sa c.po n.taker c.hd wi hz fun h' O' sb => h _ ?_
  have hd : ∃ o, h'.get? dx = some o := let ⟨o, _, _, e', _⟩ := O'.ns; ⟨o, e'⟩
  refine I.write (x := a) (e := dx) (by rw [e]; exact True.intro) (.inr ho) (fun b q hb z => (sb.2 b hb).trans z) hd ?_
  refine ⟨by rw [upd_ne O.ne]; exact ho, ?_, O.ne, O'.obj, _, O'.ns, fun g => ?_, fun g hg => ?_⟩
  · have := length_putF f y fs; omega
  · show RelO ((putF f y fs).lookup g) (if g = f then some u else mA g)
    rw [lookup_putF]
    by_cases q : g = f
    · rw [if_pos q, if_pos q]; exact ry
    · rw [if_neg q, if_neg q]; exact r g
  · by_cases q : g = f
    · rw [q]; exact (keys_putF f y fs).1
    · refine (keys_putF f y fs).2 g (wi g fun z => hg ?_)
      show (if g = f then some u else mA g) = none
      rw [if_neg q]; exact z

/-- a new instance, tracked, without attributes -/
theorem Inv.made (I : Inv X pins σ H s) : Inv X pins σ (upd (upd H s.heap.objs.size (.own (s.heap.objs.size + 1))) (s.heap.objs.size + 1) (.ins C s.heap.objs.size []))
    { s with heap := (s.heap.push PySem.W.emptyDict).push (PySem.W.instObj C s.heap.objs.size) } := by
  have e1 : (s.heap.push PySem.W.emptyDict).get? s.heap.objs.size = some PySem.W.emptyDict := Heap.get?_push_size s.heap rfl
  have e2 : ((s.heap.push PySem.W.emptyDict).push (PySem.W.instObj C s.heap.objs.size)).get? (s.heap.objs.size + 1) = some (PySem.W.instObj C s.heap.objs.size) := by
    have := Heap.get?_push_size (s.heap.push PySem.W.emptyDict) (o := PySem.W.instObj C s.heap.objs.size) rfl
    rwa [Heap.size_push] at this
  have e3 : (s.heap.push PySem.W.emptyDict).Ns s.heap.objs.size (fun _ => none) := ⟨PySem.W.emptyDict, #[], _, e1, rfl, (fun e he => absurd he (by simp)), fun _ => rfl⟩
  have I1 := I.laid (a := s.heap.objs.size) (o := .own (s.heap.objs.size + 1)) (h' := s.heap.push PySem.W.emptyDict) (t' := s.toks) (fun b u q => Heap.get?_push_of_some _ q) (Nat.le_refl _) ⟨_, e1⟩
  refine I1.laid (a := s.heap.objs.size + 1) (o := .ins C s.heap.objs.size []) (t' := s.toks) (fun b u q => Heap.get?_push_of_some _ q) (Nat.le_of_eq (Heap.size_push _ _)) ?_
  have ne : s.heap.objs.size ≠ s.heap.objs.size + 1 := Nat.ne_of_lt (Nat.lt_succ_self _)
  refine ⟨by rw [upd_ne ne, upd_same], Nat.zero_le _, ne, e2, fun _ => none, (Heap.Ns1.of_empty e3).at fun o q => Heap.get?_push_of_some _ q, fun _ => True.intro, fun y hy => absurd rfl hy⟩

/-- e.f where nothing but the object is asked: through attributeBase (super) and the last hold -/
theorem attr_of {prog : Program} {w : World} {env : Env} {e : Expr} {f : Str} {pos : Pos} {s : Shared} {Q : Value → Shared → Prop} (hb : attributeBase e f env (eval e env) = eval e env)
    (h : wpAny (model prog w) A (eval e env) (fun o s₁ => wpAny (model prog w) A (getAttr o f true) Q E s₁) E s) : wpAny (model prog w) A (eval (.Attribute e f pos) env) Q E s :=
  Attribute_any_ h (by rw [arm_eval_Attribute, hb])
end

/-! ### readings and rules -/
/-- e.f, an attribute of the instance -/
def tFld (K : PySem.W.Frag) (ta : TE) (f : Str) : TE := fun σ H Q => ta σ H fun x H1 => ∃ a C dx fs v, x = .ref a ∧ H1 a = some (.ins C dx fs) ∧ Cls K C ∧ NoAttr K C f ∧ fs.lookup f = some v ∧ Q v H1
/-- e.f = value -/
def sFld (K : PySem.W.Frag) (ta tv : TE) (f : Str) : TS := fun D σ H => tv σ H fun y H1 => ta σ H1 fun x H2 => ∃ a C dx fs, x = .ref a ∧ H2 a = some (.ins C dx fs) ∧ Cls K C ∧ NoAttr K C f ∧ fs.length < 1000 ∧
  D.nx σ (upd H2 a (.ins C dx (putF f y fs)))
section
variable {X : Cx} {o e value : Expr} {f : Str} {pos pos' tpos : Pos} {ta tv : TE}
theorem pe_fld (he : PE X e ta) (hb : attributeBase e f X.env (eval e X.env) = eval e X.env) : PE X (.Attribute e f pos) (tFld X.K ta f) := by
  intro pins s σ H Q I h
  refine attr_of hb (thn (he pins s σ H _ I h) fun u s1 ⟨x, H1, I1, rx, a, C, dx, fs, v, ex, ea, c, n, l, q⟩ => ?_)
  subst ex
  obtain rfl : u = Value.ref a := rx
  exact getattr_ok I1 ea c n l fun u' s2 I2 ru => ⟨v, H1, I2, ru, q⟩
theorem ps_fld (ha : PE X o ta) (hv : PE X value tv) (hs : swapsWith value (some (.Attribute o f pos')) pos.line X.env = pure false) : PS X (.Assign [.Attribute o f pos'] value pos) (sFld X.K ta tv f) := by
  intro pins s σ H D I h
  refine plainObj_wpAny_Assign_Attribute (thn (hv pins s σ H _ I h) fun u s1 ⟨y, H1, I1, ry, q⟩ => thn (ha pins s1 σ H1 _ I1 q) fun ov s2 ⟨x, H2, I2, rx, a, C, dx, fs, ex, ea, c, n, l, q2⟩ => ?_) hs
  subst ex
  obtain rfl : ov = Value.ref a := rx
  exact setattr_ok I2 ea c n l ry fun s3 I3 => ⟨σ, _, I3, q2⟩
end

/-! ### isinstance -/
section
variable {X : Cx} {pins : List (Addr × Obj)} {σ : St} {H : Hp} {s : Shared} {A : Around} {E : Value → Shared → Prop} {Q : Value → Shared → Prop} {c : Value} {b : Bool}
/-- the type of a value, as the fragment's deciders take it; for an instance its class -/
inductive TyOf (K : PySem.W.Frag) (H : Hp) : V → Value → Prop where
  | non : TyOf K H .non (.type "NoneType")
  | bl (x : Bool) : TyOf K H (.bl x) (.type "bool")
  | int (i : Int) : TyOf K H (.int i) (.type "int")
  | str (x : Str) : TyOf K H (.str x) (.type "str")
  | flt (x : UInt64) : TyOf K H (.flt x) (.type "float")
  | lst {a : Addr} {xs : List V} (e : H a = some (.lst xs)) : TyOf K H (.ref a) (.type "list")
  | frz {a : Addr} {o : Obj} {xs : List V} (e : H a = some (.frz o (.lst xs))) : TyOf K H (.ref a) (.type "list")
  | tup {a : Addr} {xs : List V} (e : H a = some (.tup xs)) : TyOf K H (.ref a) (.type "tuple")
  | dK {a : Addr} {kvs : List (Key × V)} (e : H a = some (.dK kvs)) : TyOf K H (.ref a) (.type "dict")
  | dT {a : Addr} {kvs : List (List Key × V)} (e : H a = some (.dT kvs)) : TyOf K H (.ref a) (.type "dict")
  | ins {a C dx : Addr} {fs : List (Str × V)} (e : H a = some (.ins C dx fs)) (cl : Cls K C) (ha : PySem.W.findIn K (.ref C) "__class__" = some (some (.builtin "object.__class__")))
      (hn : PySem.W.specialIn K (.builtin "object.__class__") "__get__" = some (some (.builtin "getset_descriptor.__get__"))) (htk : PySem.W.takesIn K (.builtin "object.__class__") = some true)
      (hm : PySem.W.mroIn K C (.type "object") = some true) : TyOf K H (.ref a) (.ref C)
/-- isinstance(x, c) for one class c, a built-in or an own one: kitOne's answer -/
theorem isinst_ok {x : V} {u t : Value} (I : Inv X pins σ H s) (rx : RelV x u) (ty : TyOf X.K H x t) (e : PySem.W.kitOne X.K t c = some b) (h : ∀ tk, Q (.bool b) { s with toks := tk }) :
    wpAny (model X.prog X.w) A (call (.builtin "isinstance") [u, c]) Q E s := by
  cases ty with
  | non => cases (show u = Value.none from rx); exact PySem.W.kia_one PySem.W.kitx_none I.kIn True.intro e (fun z => nomatch z) h
  | bl y => cases (show u = Value.bool y from rx); exact PySem.W.kia_one PySem.W.kitx_bool I.kIn True.intro e (fun z => nomatch z) h
  | int i => obtain ⟨t, q⟩ := (show ∃ t, u = Value.int i t from rx); cases q; exact PySem.W.kia_one PySem.W.kitx_int I.kIn True.intro e (fun z => nomatch z) h
  | str y => obtain ⟨t, q⟩ := (show ∃ t, u = Value.str y t from rx); cases q; exact PySem.W.kia_one PySem.W.kitx_str I.kIn True.intro e (fun z => nomatch z) h
  | flt y => obtain ⟨t, q⟩ := (show ∃ t, u = Value.float y t from rx); cases q; exact PySem.W.kia_one PySem.W.kitx_float I.kIn True.intro e (fun z => nomatch z) h
  | @lst a xs ea =>
    cases (show u = Value.ref a from rx)
    obtain ⟨_, _, n, _, h1⟩ := (show ObjOk X.prog X.w H s.heap a (.lst xs) from I.hok a _ ea)
    exact PySem.W.kia_one PySem.W.kitx_list I.kIn ⟨_, h1, rfl⟩ e (fun z => nomatch z) h
  | @frz a ob xs ea =>
    cases (show u = Value.ref a from rx)
    obtain ⟨_, _, _, n, _, h1⟩ := (show ObjOk X.prog X.w H s.heap a (.frz ob (.lst xs)) from I.hok a _ ea)
    exact PySem.W.kia_one PySem.W.kitx_list I.kIn ⟨_, h1, rfl⟩ e (fun z => nomatch z) h
  | @tup a xs ea =>
    cases (show u = Value.ref a from rx)
    obtain ⟨_, _, _, p⟩ := (show ObjOk X.prog X.w H s.heap a (.tup xs) from I.hok a _ ea)
    obtain ⟨o, h1, h2, _⟩ := p
    exact PySem.W.kia_one PySem.W.kitx_tuple I.kIn ⟨o, h1, h2⟩ e (fun z => nomatch z) h
  | @dK a kvs ea =>
    cases (show u = Value.ref a from rx)
    obtain ⟨_, _, vs, _, p⟩ := (show ObjOk X.prog X.w H s.heap a (.dK kvs) from I.hok a _ ea)
    obtain ⟨o, es, ep, h1, h2, _⟩ := p
    exact PySem.W.kia_one PySem.W.kitx_dict I.kIn ⟨o, h1, h2.1⟩ e (fun z => nomatch z) h
  | @dT a kvs ea =>
    cases (show u = Value.ref a from rx)
    obtain ⟨_, _, xs, _, o, es, ep, h1, h2, _⟩ := (show ObjOk X.prog X.w H s.heap a (.dT kvs) from I.hok a _ ea)
    exact PySem.W.kia_one PySem.W.kitx_dict I.kIn ⟨o, h1, h2.1⟩ e (fun z => nomatch z) h
  | @ins a C dx fs ea cl ha hn htk hm =>
    cases (show u = Value.ref a from rx)
    obtain ⟨mA, O, _⟩ := ins_get I.hok ea
    obtain ⟨od, J, _⟩ := O.look
    exact PySem.W.kia_one (PySem.W.kitx_own (cl.get _) cl.hd ha hn htk hm) I.kIn J e (fun z => nomatch z) h
end
end L2

namespace L2
open PySem PySem.Spec PyProof.Rows

/-! ### room -/
structure Room (k : Nat) (A : Around) : Prop where
  hd : A.handled = none
  dp : A.depth + 3 * k + 5 < recursionLimit
  un : A.units + 16 * k + 200 < cLine
theorem Room.mono {j k : Nat} {A : Around} (r : Room k A) (h : j ≤ k) : Room j A := ⟨r.hd, by have := r.dp; omega, by have := r.un; omega⟩
theorem Room.deeper {k : Nat} {A : Around} (r : Room (k + 1) A) (env : Env) : Room k (A.deeper env) :=
  ⟨r.hd, by have := r.dp; show A.depth + 1 + 3 * k + 5 < _; omega, by have := r.un; show A.units + 3 + 16 * k + 200 < _; omega⟩
theorem Room.in1 {k : Nat} {A : Around} (r : Room (k + 1) A) : Room k A.in1 :=
  ⟨r.hd, by have := r.dp; show A.depth + 3 * k + 5 < _; omega, by have := r.un; show A.units + 1 + 16 * k + 200 < _; omega⟩
theorem make_depth {A : Around} {C : Addr} {us : List Value} {kw : List (Str × Value)} : (A.under (.builtin "type.__call__" ⟨.ref C :: us, kw⟩)).depth = A.depth + 1 := by
  first | rfl | simp [Around.under, Code.weight, Code.isCreation, Code.isGuard, Code.isCaller, Code.frames, Code.isFrame, guardIds]
theorem make_units {A : Around} {C : Addr} {us : List Value} {kw : List (Str × Value)} : (A.under (.builtin "type.__call__" ⟨.ref C :: us, kw⟩)).units = A.units + 1 := by
  first | rfl | simp [Around.under, Code.cUnits, Code.frames, Code.isFrame]
theorem Room.make {k : Nat} {A : Around} (r : Room (k + 1) A) (C : Addr) (us : List Value) (kw : List (Str × Value)) : Room k (A.under (.builtin "type.__call__" ⟨.ref C :: us, kw⟩)) :=
  ⟨r.hd, by have := r.dp; rw [make_depth]; omega, by have := r.un; rw [make_units]; omega⟩
theorem Room.depth {k : Nat} {A : Around} (r : Room k A) : A.depth < recursionLimit := by have := r.dp; omega
theorem Room.units {k : Nat} {A : Around} (r : Room k A) : A.units + 64 < cLine := by have := r.un; omega
/-! ### argument lists and displays -/
def tNil : TA := fun _ H Q => Q [] H
def tCons (ta : TE) (tr : TA) : TA := fun σ H Q => ta σ H fun x H1 => tr σ H1 fun xs H2 => Q (x :: xs) H2
section
variable {X : Cx} {e : Expr} {es : List Expr} {te : TE} {t : TA} {pos : Pos}
theorem pa_nil : PA X [] tNil := fun _ _ _ _ H Q I h => Calls.spliced_nil ⟨[], H, I, .nil, h⟩
theorem pa_cons (ha : PE X e te) (hr : PA X es t) (hs : starEach (e :: es) X.env = (false, eval e X.env) :: starEach es X.env := by rfl) : PA X (e :: es) (tCons te t) := by
  intro pos pins s σ H Q I h
  rw [hs]
  show wpAny _ _ (spliced ((false, eval e X.env) :: backTo pos (starEach es X.env))) _ _ s
  refine Calls.spliced_cons (thn (ha pins s σ H _ I h) fun u s1 ⟨x, H1, I1, r1, q1⟩ => ?_)
  exact thn (hr pos pins s1 σ H1 _ I1 q1) fun us s2 ⟨xs, H2, I2, r2, q2⟩ => ⟨x :: xs, H2, I2, .cons r1 r2, q2⟩

/-- a tuple, a list of written items -/
def tTup (t : TA) : TE := fun σ H Q => t σ H fun xs H1 => xs.length ≤ sizeLine ∧ ∀ p, H1 p = none → Q (.ref p) (upd H1 p (.tup xs))
def tLst (t : TA) : TE := fun σ H Q => t σ H fun xs H1 => xs.length ≤ sizeLine ∧ ∀ p, H1 p = none → Q (.ref p) (upd H1 p (.lst xs))
theorem pe_tup {x1} (h : PA X es t) : PE X (.Tuple es x1 pos) (tTup t) := by
  intro pins s σ H Q I hq
  refine wpAny_Tuple_spliced (thn (h pos pins s σ H _ I hq) fun us s1 ⟨xs, H1, I1, r, z, q⟩ => ⟨by rw [← r.length]; exact z, ?_⟩)
  have hf : H1 s1.heap.objs.size = none := I1.hok.fresh (Nat.le_refl _)
  refine ⟨.ref s1.heap.objs.size, upd H1 s1.heap.objs.size (.tup xs), I1.laid (t' := s1.toks) (fun b u e => Heap.get?_push_of_some _ e) (Nat.le_refl _) ?_, rfl, q _ hf⟩
  exact ⟨z, us, r, ⟨_, Heap.get?_push_size _ rfl, rfl, _, rfl⟩⟩
theorem pe_lst (h : PA X es t) : PE X (.List es pos) (tLst t) := by
  intro pins s σ H Q I hq
  refine wpAny_List_spliced (thn (h pos pins s σ H _ I hq) fun us s1 ⟨xs, H1, I1, r, z, q⟩ => ⟨by rw [← r.length]; exact z, ?_⟩)
  have hf : H1 s1.heap.objs.size = none := I1.hok.fresh (Nat.le_refl _)
  refine ⟨.ref s1.heap.objs.size, upd H1 s1.heap.objs.size (.lst xs), I1.laid (t' := s1.toks) (fun b u e => Heap.get?_push_of_some _ e) (Nat.le_refl _) ?_, rfl, q _ hf⟩
  exact ⟨z, us, 0, r, Heap.get?_push_size _ rfl⟩
end

/-! ### what a def promises -/
/-- a def's promise: the bound arguments in the parameters' order, the heap, the wanted end, the wanted exception -/
abbrev Sp := List V → Hp → VK → XK → Prop
/-- how an exception lies behind a call (file 08 gives it): the callers' frames, abstract heap and state ahead of the call, the wish, the exception, the state -/
abbrev CXT := List Env → Hp → Shared → XK → Value → Shared → Prop

/-- the state at a call -/
structure Env0 (P : Program) (w : World) (K : PySem.W.Frag) (mg : Str → Option Value) (base : Heap) (A : Around) (outer : List Env) (s : Shared) (H : Hp) : Prop where
  frames : A.frames = some outer
  mod : Mod K mg base
  bs : ∀ b o, base.get? b = some o → s.heap.get? b = some o ∧ H b = none
  bsz : base.objs.size ≤ s.heap.objs.size
  funs : s.heap.FunFrames base outer
  frf : ∀ b ∈ frs outer, H b = none
  hok : HOk P w H s.heap
  bare : AllBare s.gens
/-- a call's end -/
def CE (outer : List Env) (P : Program) (w : World) (H : Hp) (s : Shared) (Q : VK) (u : Value) (s' : Shared) : Prop :=
  ∃ v H', s'.os = s.os ∧ AllBare s'.gens ∧ Un (frs outer) [] H H' s.heap s'.heap ∧ HOk P w H' s'.heap ∧ RelV v u ∧ Q v H'
def CR (CX : CXT) (outer : List Env) (P : Program) (w : World) (H : Hp) (s : Shared) (Q : VK) (E : XK) (r : Result) (s' : Shared) : Prop :=
  match r with
  | .ok (.ret u) => CE outer P w H s Q u s'
  | .ok _ => False
  | .error e => CX outer H s E e s'
structure FnOk (P : Program) (w : World) (K : PySem.W.Frag) (mg : Str → Option Value) (base : Heap) (CX : CXT) (k : Nat) (f : Addr) (fd : FuncData) (ps : List Str) (sp : Sp) : Prop where
  len : ∀ vs H Q E, sp vs H Q E → vs.length = ps.length
  run : ∀ (A : Around) (outer : List Env) (s : Shared) (H : Hp) (args : Args) (us : List Value) (vs : List V) (Q : VK) (E : XK), Room k A → Env0 P w K mg base A outer s H → BindsTo s fd args (ps.zip us) → Vals vs us → sp vs H Q E →
    codeAny (model P w) A (.call (.ref f) args) (CR CX outer P w H s Q E) s
theorem FnOk.mono {P : Program} {w : World} {K : PySem.W.Frag} {mg : Str → Option Value} {base : Heap} {CX : CXT} {j k : Nat} {f : Addr} {fd : FuncData} {ps : List Str} {sp : Sp} (F : FnOk P w K mg base CX j f fd ps sp) (h : j ≤ k) :
    FnOk P w K mg base CX k f fd ps sp := ⟨F.len, fun A outer s H args us vs Q E hr => F.run A outer s H args us vs Q E (hr.mono h)⟩
/-- a weaker promise -/
theorem FnOk.imp {P : Program} {w : World} {K : PySem.W.Frag} {mg : Str → Option Value} {base : Heap} {CX : CXT} {k : Nat} {f : Addr} {fd : FuncData} {ps : List Str} {sp sp' : Sp} (F : FnOk P w K mg base CX k f fd ps sp)
    (h : ∀ vs H Q E, sp' vs H Q E → sp vs H Q E) : FnOk P w K mg base CX k f fd ps sp' :=
  ⟨fun vs H Q E q => F.len vs H Q E (h _ _ _ _ q), fun A outer s H args us vs Q E hr he hb hv hs => F.run A outer s H args us vs Q E hr he hb hv (h _ _ _ _ hs)⟩

theorem Env0.make {P : Program} {w : World} {K : PySem.W.Frag} {mg : Str → Option Value} {base : Heap} {A : Around} {outer : List Env} {s : Shared} {H : Hp} (e : Env0 P w K mg base A outer s H) (C : Addr) (us : List Value) (kw : List (Str × Value)) :
    Env0 P w K mg base (A.under (.builtin "type.__call__" ⟨.ref C :: us, kw⟩)) outer s H := ⟨by first | exact e.frames | (simpa [Around.under, Code.envs, Code.isFrame, pushEnvs] using e.frames), e.mod, e.bs, e.bsz, e.funs, e.frf, e.hok, e.bare⟩
theorem Env0.in1 {P : Program} {w : World} {K : PySem.W.Frag} {mg : Str → Option Value} {base : Heap} {A : Around} {outer : List Env} {s : Shared} {H : Hp} (e : Env0 P w K mg base A outer s H) :
    Env0 P w K mg base A.in1 outer s H := ⟨e.frames, e.mod, e.bs, e.bsz, e.funs, e.frf, e.hok, e.bare⟩

section
variable {X : Cx} {pins : List (Addr × Obj)} {σ : St} {H : Hp} {s s' : Shared}
/-- from a body: what a callee wants -/
theorem Inv.env0 (I : Inv X pins σ H s) : Env0 X.prog X.w X.K X.mg X.base X.A X.stack s H :=
  ⟨I.ok.frames, I.ok.mod, I.bs, Nat.le_trans I.ok.bsz I.sz, I.stack, I.stkFree, I.hok, I.bare⟩
/-- behind a call -/
theorem Inv.after {Q : VK} {u : Value} (I : Inv X pins σ H s) (h : CE X.stack X.prog X.w H s Q u s') : EP X pins σ Q u s' := by
  obtain ⟨v, H', os, bare, un, hok, r, q⟩ := h
  obtain ⟨hh, g, d, t, os'⟩ := s'
  obtain rfl : os' = s.os := os
  exact ⟨v, H', I.call (h' := hh) (g' := g) (d' := d) (t' := t) (ch := []) un hok bare (fun b z => absurd z (by simp)), r, q⟩
end

/-! ### calls -/
/-- f(..): the written arguments, then the defaults dvs; E: what is wanted of an exception -/
def tCall (sp : Sp) (dvs : List V) (E : XK) (t : TA) : TE := fun σ H Q => t σ H fun vs H1 => sp (vs ++ dvs) H1 Q E
/-- o.m(..) of an instance of the class at C -/
def tMeth (C : Addr) (m : Str) (sp : Sp) (dvs : List V) (E : XK) (ta : TE) (t : TA) : TE := fun σ H Q => ta σ H fun x H1 => ∃ a dx fs, x = .ref a ∧ H1 a = some (.ins C dx fs) ∧ fs.lookup m = none ∧
  t σ H1 fun vs H2 => sp (x :: (vs ++ dvs)) H2 Q E
/-- C(..): a new instance and its dict, then __init__ -/
def tMake (C : Addr) (sp : Sp) (dvs : List V) (E : XK) (t : TA) : TE := fun σ H Q => t σ H fun vs H1 => ∀ x dx, H1 x = none → H1 dx = none → dx ≠ x →
  sp (.ref x :: (vs ++ dvs)) (upd (upd H1 dx (.own x)) x (.ins C dx [])) (fun v H2 => v = .non ∧ Q (.ref x) H2) E

/-- how the parameters are bound: us the positional arguments, kw the keywords' values by name, ds the defaults that fill up -/
def Binds (K : PySem.W.Frag) (fd : FuncData) (ps : List Str) (ds : List Value) : Prop :=
  ∀ (s : Shared) (us : List Value), K.In s.heap → (us ++ ds).length = ps.length → BindsTo s fd ⟨us, []⟩ (ps.zip (us ++ ds))
/-- every parameter is given -/
theorem Binds.all {K : PySem.W.Frag} {fd : FuncData} {ps : List Str} (h : ∀ us : List Value, us.length = ps.length → bindArgs fd ⟨us, []⟩ = pure (ps.zip us)) : Binds K fd ps [] := fun s us _ hl => by
  rw [List.append_nil] at hl ⊢
  exact .of_eq (h us hl)

/-- an exception of a callee reaches what this body wants of exceptions -/
def Passes (CX : CXT) (X : Cx) (E : XK) : Prop := ∀ (pins : List (Addr × Obj)) (σ : St) (H : Hp) (s : Shared) (e : Value) (s' : Shared), Inv X pins σ H s → CX X.stack H s E e s' → X.xe e s'

section
variable {X : Cx} {CX : CXT} {k : Nat} {f C : Addr} {fd : FuncData} {ps : List Str} {sp : Sp} {dvs : List V} {ds : List Value} {E : XK} {x m : Str} {p pos apos : Pos} {e o : Expr} {es : List Expr} {ta : TE} {t : TA}

/-- the callee runs -/
theorem run_fn {pins : List (Addr × Obj)} {σ : St} {H : Hp} {s : Shared} {Q : VK} {us : List Value} {vs : List V} (F : FnOk X.prog X.w X.K X.mg X.base CX k f fd ps sp) (hr : Room k X.A) (hb : Binds X.K fd ps ds) (hd : Vals dvs ds) (hx : Passes CX X E)
    (I : Inv X pins σ H s) (r : Vals vs us) (h : sp (vs ++ dvs) H Q E) : wpAny (model X.prog X.w) X.A (call (.ref f) us) (EP X pins σ Q) X.xe s := by
  have r2 : Vals (vs ++ dvs) (us ++ ds) := r.append hd
  have hl : (us ++ ds).length = ps.length := by rw [← r2.length]; exact F.len _ _ _ _ h
  refine wpAny_call (codeAny_mono (F.run X.A X.stack s H ⟨us, []⟩ (us ++ ds) (vs ++ dvs) Q E hr I.env0 (hb s us I.kIn hl) r2 h) fun r s' hq => ?_)
  cases r with
  | error e => exact hx pins σ H s e s' I hq
  | ok fl =>
    cases fl with
    | ret u => exact I.after hq
    | next => exact False.elim hq
    | brk => exact False.elim hq
    | cont => exact False.elim hq

theorem pe_call (F : FnOk X.prog X.w X.K X.mg X.base CX k f fd ps sp) (hr : Room k X.A) (hg : Gl X x) (hm : X.mg x = some (.ref f)) (hk : PySem.W.keepIn X.K (.ref f) = true) (hb : Binds X.K fd ps ds) (hd : Vals dvs ds) (hx : Passes CX X E)
    (ha : PA X (e :: es) t) (hdb : (x == ("__debug__" : Str)) = false := by decide) (he : starEach (e :: es) X.env = (false, eval e X.env) :: starEach es X.env := by rfl) (hpl : (backTo pos (starEach es X.env)).any (·.1) = false := by rfl) :
    PE X (.Call (.Name x p) (e :: es) [] pos) (tCall sp dvs E t) := by
  intro pins s σ H Q I h
  refine wpAny_Call_Name_kw (ld_glob I hg hm ?_ hdb)
  refine PySem.W.callWith_K (h₀ := X.base) I.ok.mod.kin hk (thn (ha pos pins s σ H _ I h) fun us s1 ⟨vs, H1, I1, r, q⟩ => ⟨I1.kIn, ?_⟩) he hpl
  exact run_fn F hr hb hd hx I1 r q
/-- o.m(e, ..) -/
theorem pe_meth {pl : Sem Bool} (he : PE X o ta) (c : Cls X.K C) (hm : Meth X.K C m f) (F : FnOk X.prog X.w X.K X.mg X.base CX k f fd ps sp) (hr : Room k X.A) (hb : Binds X.K fd ps ds) (hd : Vals dvs ds) (hx : Passes CX X E) (ha : PA X (e :: es) t)
    (hst : starEach (e :: es) X.env = (false, eval e X.env) :: starEach es X.env := by rfl) (hpl : (backTo pos (starEach es X.env)).any (·.1) = false := by rfl)
    (ht : eval (.Call (.Attribute o m apos) (e :: es) [] pos) X.env = (do
      let ov ← eval o X.env
      standAt apos.atName
      let (f, first) ← holding [ov] (getMethod ov m pl)
      callWith pos f first (backTo pos (starEach (e :: es) X.env)) (backToKw pos (keywordEach [] X.env))) := by rfl) :
    PE X (.Call (.Attribute o m apos) (e :: es) [] pos) (tMeth C m sp dvs E ta t) := by
  intro pins s σ H Q I h
  refine PySem.W.methodCall_KW (pl := pl) (thn (he pins s σ H _ I h) fun u s1 ⟨x, H1, I1, rx, a, dx, fs, ex, ea, l, q⟩ => ?_) ht
  subst ex
  obtain rfl : u = Value.ref a := rx
  refine getmeth_ok I1 ea c hm l ?_
  refine PySem.W.callWith_K (first := [.ref a]) (h₀ := X.base) I.ok.mod.kin hm.kp (thn (ha pos pins s1 σ H1 _ I1 q) fun us s2 ⟨vs, H2, I2, r, q2⟩ => ⟨I2.kIn, ?_⟩) hst hpl
  exact run_fn (us := .ref a :: us) (vs := .ref a :: vs) F hr hb hd hx I2 (.cons rfl r) q2
/-- what a class must have to be made -/
structure Mk (K : PySem.W.Frag) (C f : Addr) : Prop where
  makes : PySem.W.makesIn K C = true
  init : PySem.W.findIn K (.ref C) "__init__" = some (some (.ref f))
  fn : PySem.W.isFn K (.ref f) = true
  kp : PySem.W.keepIn K (.ref C) = true

theorem run_make {pins : List (Addr × Obj)} {σ : St} {H : Hp} {s : Shared} {Q : VK} {us : List Value} {vs : List V} (M : Mk X.K C f) (F : FnOk X.prog X.w X.K X.mg X.base CX k f fd ps sp) (hr : Room (k + 1) X.A) (hb : Binds X.K fd ps ds) (hd : Vals dvs ds)
    (hx : Passes CX X E) (I : Inv X pins σ H s) (r : Vals vs us)
    (h : ∀ x dx, H x = none → H dx = none → dx ≠ x → sp (.ref x :: (vs ++ dvs)) (upd (upd H dx (.own x)) x (.ins C dx [])) (fun v H2 => v = .non ∧ Q (.ref x) H2) E) :
    wpAny (model X.prog X.w) X.A (call (.ref C) us) (EP X pins σ Q) X.xe s := by
  have hq := h (s.heap.objs.size + 1) s.heap.objs.size (I.hok.fresh (Nat.le_succ _)) (I.hok.fresh (Nat.le_refl _)) (Nat.ne_of_lt (Nat.lt_succ_self _))
  have I2 := Inv.made (C := C) I
  have r2 : Vals (V.ref (s.heap.objs.size + 1) :: (vs ++ dvs)) (Value.ref (s.heap.objs.size + 1) :: (us ++ ds)) := .cons rfl (r.append hd)
  have hl : (Value.ref (s.heap.objs.size + 1) :: us ++ ds).length = ps.length := by
    have e := r2.length
    rw [F.len _ _ _ _ hq] at e
    exact e.symm
  refine wpAny_call (make_map (f := f) I.kIn M.makes M.init (beq_iff_eq.mp M.fn) (codeAny_mono (F.run _ X.stack _ _ ⟨Value.ref (s.heap.objs.size + 1) :: us, []⟩ (Value.ref (s.heap.objs.size + 1) :: (us ++ ds)) _ _ E (hr.make C us [])
    (I2.env0.make C us []) (hb _ (Value.ref (s.heap.objs.size + 1) :: us) I2.kIn hl) r2 hq) fun r s' hq' => ?_))
  cases r with
  | error e => exact hx pins σ _ _ e s' I2 hq'
  | ok fl =>
    cases fl with
    | ret u =>
      obtain ⟨v, H', I3, rv, ev, q3⟩ := I2.after hq'
      subst ev
      exact ⟨rv, ⟨V.ref (s.heap.objs.size + 1), H', I3, rfl, q3⟩⟩
    | next => exact False.elim hq'
    | brk => exact False.elim hq'
    | cont => exact False.elim hq'
theorem pe_make (M : Mk X.K C f) (F : FnOk X.prog X.w X.K X.mg X.base CX k f fd ps sp) (hr : Room (k + 1) X.A) (hg : Gl X x) (hm : X.mg x = some (.ref C)) (hb : Binds X.K fd ps ds) (hd : Vals dvs ds) (hx : Passes CX X E)
    (ha : PA X (e :: es) t) (hdb : (x == ("__debug__" : Str)) = false := by decide) (he : starEach (e :: es) X.env = (false, eval e X.env) :: starEach es X.env := by rfl) (hpl : (backTo pos (starEach es X.env)).any (·.1) = false := by rfl) :
    PE X (.Call (.Name x p) (e :: es) [] pos) (tMake C sp dvs E t) := by
  intro pins s σ H Q I h
  refine wpAny_Call_Name_kw (ld_glob I hg hm ?_ hdb)
  refine PySem.W.callWith_K (h₀ := X.base) I.ok.mod.kin M.kp (thn (ha pos pins s σ H _ I h) fun us s1 ⟨vs, H1, I1, r, q⟩ => ⟨I1.kIn, ?_⟩) he hpl
  exact run_make M F hr hb hd hx I1 r q
end

/-! ### keywords -/
/-- the values of the keywords, from the left -/
def PK (X : Cx) (kws : List Keyword) (t : TA) : Prop :=
  ∀ (pos : Pos) (pins : List (Addr × Obj)) (s : Shared) (σ : St) (H : Hp) (Q : List V → Hp → Prop), Inv X pins σ H s → t σ H Q → wpAny (model X.prog X.w) X.A (evalAll ((backToKw pos (keywordEach kws X.env)).map (·.2))) (AP X pins σ Q) X.xe s
section
variable {X : Cx} {CX : CXT} {k : Nat} {f C : Addr} {fd : FuncData} {ps ks : List Str} {sp : Sp} {E : XK} {x m : Str} {p pos apos kpos : Pos} {e o : Expr} {es : List Expr} {kws : List Keyword} {te ta : TE} {t tk : TA} {nm : Option Str}
theorem pk_nil : PK X [] tNil := fun _ _ _ _ H Q I h => wpAny_evalAll_nil ⟨[], H, I, .nil, h⟩
theorem pk_cons (ha : PE X e te) (hr : PK X kws t) : PK X (⟨nm, e, kpos⟩ :: kws) (tCons te t) := by
  intro pos pins s σ H Q I h
  show wpAny _ _ (evalAll ((do let v ← eval e X.env; standAt pos; pure v) :: (backToKw pos (keywordEach kws X.env)).map (·.2))) _ _ s
  refine wpAny_evalAll_cons (wpAny_bind (thn (ha pins s σ H _ I h) fun u s1 ⟨x, H1, I1, r1, q1⟩ => wpAny_bind (wpAny_standAt (wpAny_pure ?_))))
  exact thn (hr pos pins s1 σ H1 _ I1 q1) fun us s2 ⟨xs, H2, I2, r2, q2⟩ => ⟨x :: xs, H2, I2, .cons r1 r2, q2⟩

/-- how a call with keywords binds: g puts the positional values us and the keywords' values ws (names ks) in the parameters' order, defaults among them -/
structure KBinds (K : PySem.W.Frag) (fd : FuncData) (ps ks : List Str) (g : List Value → List Value → List Value) (gV : List V → List V → List V) : Prop where
  to : ∀ (s : Shared) (us ws : List Value), K.In s.heap → (g us ws).length = ps.length → BindsTo s fd ⟨us, ks.zip ws⟩ (ps.zip (g us ws))
  rel : ∀ {vs : List V} {us : List Value} {zs : List V} {ws : List Value}, Vals vs us → Vals zs ws → Vals (gV vs zs) (g us ws)
def tCallK (sp : Sp) (gV : List V → List V → List V) (E : XK) (t tk : TA) : TE := fun σ H Q => t σ H fun vs H1 => tk σ H1 fun zs H2 => sp (gV vs zs) H2 Q E
variable {g : List Value → List Value → List Value} {gV : List V → List V → List V}
theorem run_fnk {pins : List (Addr × Obj)} {σ : St} {H : Hp} {s : Shared} {Q : VK} {us ws : List Value} {vs zs : List V} (F : FnOk X.prog X.w X.K X.mg X.base CX k f fd ps sp) (hr : Room k X.A) (hb : KBinds X.K fd ps ks g gV) (hx : Passes CX X E)
    (I : Inv X pins σ H s) (r : Vals vs us) (rz : Vals zs ws) (h : sp (gV vs zs) H Q E) : wpAny (model X.prog X.w) X.A (call (.ref f) us (ks.zip ws)) (EP X pins σ Q) X.xe s := by
  have r2 := hb.rel r rz
  have hl : (g us ws).length = ps.length := by rw [← r2.length]; exact F.len _ _ _ _ h
  refine wpAny_call (codeAny_mono (F.run X.A X.stack s H ⟨us, ks.zip ws⟩ (g us ws) (gV vs zs) Q E hr I.env0 (hb.to s us ws I.kIn hl) r2 h) fun r s' hq => ?_)
  cases r with
  | error e => exact hx pins σ H s e s' I hq
  | ok fl =>
    cases fl with
    | ret u => exact I.after hq
    | next => exact False.elim hq
    | brk => exact False.elim hq
    | cont => exact False.elim hq
/-- f(e, .., k = v, ..) -/
theorem pe_callK (F : FnOk X.prog X.w X.K X.mg X.base CX k f fd ps sp) (hr : Room k X.A) (hg : Gl X x) (hm : X.mg x = some (.ref f)) (hk : PySem.W.keepIn X.K (.ref f) = true) (hb : KBinds X.K fd ps ks g gV) (hx : Passes CX X E)
    (ha : PA X (e :: es) t) (hkw : PK X kws tk) (hall : (backToKw pos (keywordEach kws X.env)).all (·.1.isSome) = true := by rfl) (hks : (backToKw pos (keywordEach kws X.env)).filterMap (·.1) = ks := by rfl)
    (hdb : (x == ("__debug__" : Str)) = false := by decide) (he : starEach (e :: es) X.env = (false, eval e X.env) :: starEach es X.env := by rfl)
    (hpl : ((backTo pos (starEach (e :: es) X.env)).any (·.1) || (backToKw pos (keywordEach kws X.env)).any (·.1.isNone)) = false := by rfl) :
    PE X (.Call (.Name x p) (e :: es) kws pos) (tCallK sp gV E t tk) := by
  intro pins s σ H Q I h
  refine wpAny_Call_Name_kw (ld_glob I hg hm ?_ hdb)
  refine PySem.W.callWith_KW (h₀ := X.base) I.ok.mod.kin hk hall (thn (ha pos pins s σ H _ I h) fun us s1 ⟨vs, H1, I1, r, q⟩ => ?_) hpl he
  refine thn (hkw pos pins s1 σ H1 _ I1 q) fun ws s2 ⟨zs, H2, I2, rz, q2⟩ => ⟨I2.kIn, ?_⟩
  rw [hks]
  exact run_fnk F hr hb hx I2 r rz q2
end

/-! ### a def's body keeps its promise -/
/-- names: the parameters first -/
structure FnScope (N P : List Str) (sc : Scope) : Prop where
  kind : sc.kind = .function
  co : sc.isCoroutine = false
  gen : sc.isGenerator = false
  nd : N.Nodup
  pre : N.take P.length = P
  par : ∀ x ∈ P, sc.names.lookup x = some .local ∨ sc.names.lookup x = some .cell
  nofree : ∀ y ∈ sc.names, y.2 ≠ .free

theorem bindL_out {kindOf : Str → Option NameKind} {x : Str} : ∀ {binds : List (Str × Value)} {m : Str → Option Value}, (∀ v, (x, v) ∉ binds) → bindL kindOf binds m x = m x
  | [], _, _ => rfl
  | (n, v) :: r, m, h => by
    unfold bindL
    rw [bindL_out fun w hw => h w (List.mem_cons_of_mem _ hw)]
    split
    · have : x ≠ n := by rintro rfl; exact h v List.mem_cons_self
      simp [this]
    · rfl
theorem bindC_out {kindOf : Str → Option NameKind} {x : Str} : ∀ {binds : List (Str × Value)} {m : Str → Option Value}, (∀ v, (x, v) ∉ binds) → bindC kindOf binds m x = m x
  | [], _, _ => rfl
  | (n, v) :: r, m, h => by
    unfold bindC
    rw [bindC_out fun w hw => h w (List.mem_cons_of_mem _ hw)]
    split
    · rfl
    · have : x ≠ n := by rintro rfl; exact h v List.mem_cons_self
      simp [this]
theorem bindL_get {kindOf : Str → Option NameKind} {x : Str} {v : Value} : ∀ {P : List Str} {vs : List Value} {i : Nat} {m : Str → Option Value}, P.Nodup → P[i]? = some x → vs[i]? = some v → kindOf x = some .local →
    bindL kindOf (P.zip vs) m x = some v
  | [], _, _, _, _, h, _, _ => by simp at h
  | _ :: _, [], _, _, _, _, h, _ => by simp at h
  | p :: P, w :: vs, 0, m, nd, h1, h2, hk => by
    simp at h1 h2; subst h1; subst h2
    show bindL kindOf ((p, w) :: P.zip vs) m p = _
    unfold bindL
    rw [bindL_out fun v hv => (List.nodup_cons.mp nd).1 (List.of_mem_zip hv).1, if_pos hk]
    simp
  | p :: P, w :: vs, i + 1, m, nd, h1, h2, hk => by
    show bindL kindOf ((p, w) :: P.zip vs) m x = _
    unfold bindL
    exact bindL_get (i := i) (List.nodup_cons.mp nd).2 (by simpa using h1) (by simpa using h2) hk
theorem bindC_get {kindOf : Str → Option NameKind} {x : Str} {v : Value} : ∀ {P : List Str} {vs : List Value} {i : Nat} {m : Str → Option Value}, P.Nodup → P[i]? = some x → vs[i]? = some v → kindOf x ≠ some .local →
    bindC kindOf (P.zip vs) m x = some v
  | [], _, _, _, _, h, _, _ => by simp at h
  | _ :: _, [], _, _, _, _, h, _ => by simp at h
  | p :: P, w :: vs, 0, m, nd, h1, h2, hk => by
    simp at h1 h2; subst h1; subst h2
    show bindC kindOf ((p, w) :: P.zip vs) m p = _
    unfold bindC
    rw [bindC_out fun v hv => (List.nodup_cons.mp nd).1 (List.of_mem_zip hv).1, if_neg hk]
    simp
  | p :: P, w :: vs, i + 1, m, nd, h1, h2, hk => by
    show bindC kindOf ((p, w) :: P.zip vs) m x = _
    unfold bindC
    exact bindC_get (i := i) (List.nodup_cons.mp nd).2 (by simpa using h1) (by simpa using h2) hk

/-- the names' values at the entry -/
def start (N : List Str) (vs : List V) : St := vs.map some ++ List.replicate (N.length - vs.length) none

/-- the context of a def's body, at its entry; an exception leaves the frame, then lies as CX says -/
def cxOf (CX : CXT) (P : Program) (w : World) (K : PySem.W.Frag) (mg : Str → Option Value) (base : Heap) (N : List Str) (qual : Str) (scope : Scope) (f : Addr) (cd : Value) (A : Around) (outer : List Env) (s : Shared) (H : Hp) (E : XK) : Cx where
  prog := P
  w := w
  K := K
  mg := mg
  base := base
  A := A.deeper (envOfC qual scope s.heap.objs.size f cd)
  N := N
  s₀ := s
  H₀ := H
  env := envOfC qual scope s.heap.objs.size f cd
  outer := outer
  stack := envOfC qual scope s.heap.objs.size f cd :: outer
  ex := []
  calm := true
  fn := fun _ => true
  pn := []
  xe := fun e s' => wpAny (model P w) (A.deeper (envOfC qual scope s.heap.objs.size f cd)) (leaving (envOfC qual scope s.heap.objs.size f cd) e) (fun _ s'' => CX outer H s E e s'') (fun e' s'' => CX outer H s E e' s'') s'

theorem cell_has {sc : Scope} {n : Nat} {x : Str} (h : sc.names.lookup x = some .cell) : ∃ c, (cellsFrom n sc.names []).lookup x = some c := by
  have q := PySem.W.cellsFrom_some sc.names n [] (.inl h)
  exact Option.isSome_iff_exists.mp q

theorem inv_start {CX : CXT} {P : Program} {w : World} {K : PySem.W.Frag} {mg : Str → Option Value} {base : Heap} {N ps : List Str} {qual : Str} {scope : Scope} {f : Addr} {cd : Value} {A : Around} {outer : List Env} {s s1 : Shared} {H : Hp} {E : XK} {us : List Value} {vs : List V}
    (S : FnScope N ps scope) (hd : A.handled = none) (e0 : Env0 P w K mg base A outer s H) (hl : vs.length = ps.length) (r : Vals vs us)
    (x : InCallC s s.heap.objs.size (bindL (envOfC qual scope s.heap.objs.size f cd).kindOf (ps.zip us) fun _ => none) (cellsFrom (s.heap.objs.size + 1) scope.names []) (bindC (envOfC qual scope s.heap.objs.size f cd).kindOf (ps.zip us) fun _ => none) s1) :
    Inv (cxOf CX P w K mg base N qual scope f cd A outer s H E) [] (start N vs) H s1 := by
  have hpl : ps.length ≤ N.length := by have := congrArg List.length S.pre; rw [List.length_take] at this; omega
  obtain ⟨h1, tk, rfl, hk⟩ := x.done
  have noA : ∀ b : Addr, b ∉ (cxOf CX P w K mg base N qual scope f cd A outer s H E).ex := fun b z => absurd (show b ∈ ([] : List Addr) from z) (by simp)
  refine ⟨⟨e0.mod, S.kind, rfl, rfl, Nat.le_refl _, fun y z c h1 h2 => ?_, fun y hy => ?_, fun y c _ h => ?_, fun _ => hd, Around.frames_deeper e0.frames, .inr ⟨rfl, rfl⟩, fun b z => absurd z (noA b), e0.bs, e0.bsz, fun b _ _ => noA b, fun b z => absurd z (noA b), e0.funs, e0.frf⟩,
    rfl, e0.bare, Un.kept hk, ⟨_, x.toInCall.ns, fun i y v h1 h2 h3 => ?_⟩, fun y c h => ⟨_, x.cell y c h⟩, e0.hok.fresh (Nat.le_refl _), fun y c h => ?_, fun p hp => absurd (show p ∈ ([] : List (Addr × Obj)) from hp) (by simp), e0.hok.kept hk, ?_⟩
  · exact name_of_addr x.apart (PySem.mem_of_lookup h1) (PySem.mem_of_lookup h2)
  · have hy : scope.names.lookup y = some .cell ∨ scope.names.lookup y = some .free := hy
    rcases hy with hy | hy
    · exact cell_has hy
    · exact absurd rfl (S.nofree _ (PySem.mem_of_lookup hy))
  · exact Nat.le_of_lt (x.above y c (PySem.mem_of_lookup h))
  · have hi : i < vs.length := by
      unfold start at h2
      by_cases hi : i < vs.length
      · exact hi
      · rw [List.getElem?_append_right (by simpa using hi)] at h2
        rw [List.getElem?_replicate] at h2
        split at h2 <;> cases h2
    have ha : vs[i]? = some v := by
      unfold start at h2
      rw [List.getElem?_append_left (by simpa using hi), List.getElem?_map] at h2
      cases e : vs[i]? with
      | none => rw [e] at h2; cases h2
      | some a => rw [e] at h2; cases h2; rfl
    obtain ⟨u, hu, rv⟩ := r.get ha
    have hp : ps[i]? = some y := by
      rw [← S.pre, List.getElem?_take_of_lt (by omega)]; exact h1
    have ndP : ps.Nodup := by rw [← S.pre]; exact S.nd.sublist (List.take_sublist _ _)
    refine ⟨u, rv, ?_⟩
    rcases S.par y (List.mem_of_getElem? hp) with k | k
    · exact .inl ⟨k, bindL_get ndP hp hu k⟩
    · obtain ⟨c, e⟩ := cell_has (n := s.heap.objs.size + 1) k
      refine .inr ⟨.inl k, c, e, ?_⟩
      have q := x.cell y c e
      rw [bindC_get ndP hp hu (by show scope.names.lookup y ≠ _; rw [k]; decide)] at q
      exact q
  · exact e0.hok.fresh (Nat.le_of_lt (x.above y c (PySem.mem_of_lookup h)))
  · unfold start
    show _ = N.length
    rw [List.length_append, List.length_map, List.length_replicate]
    omega

/-- THE RULE: a def (or a method) of the text, by its body. The body's reading t is chosen for each entry; it is run at the parameters' values -/
theorem fn_of {CX : CXT} {P : Program} {w : World} {K : PySem.W.Frag} {mg : Str → Option Value} {base : Heap} {k : Nat} {f : Addr} {name qual : Str} {params : Arguments} {body : List Stmt} {scope : Scope} {dV kV doc pm cdv ct oc : Value} {an od : Option Addr}
    {osl : Array (Option Value)} {N ps : List Str} {sp : Sp} (lk : K.lookup f = some ⟨oc, od, .func (PySem.W.fnOf name qual params body scope dV kV doc pm an cdv ct), osl⟩) (hcd : PySem.W.codeIn K cdv qual = true) (S : FnScope N ps scope)
    (len : ∀ vs H Q E, sp vs H Q E → vs.length = ps.length)
    (hbody : ∀ (A : Around) (outer : List Env) (s : Shared) (H : Hp) (vs : List V) (Q : VK) (E : XK), Room k (A.deeper (envOfC qual scope s.heap.objs.size f cdv)) → sp vs H Q E →
      ∃ t, PSs (cxOf CX P w K mg base N qual scope f cdv A outer s H E) body t ∧ t { nx := fun _ H' => Q .non H', rt := Q } (start N vs) H) :
    FnOk P w K mg base CX (k + 1) f (PySem.W.fnOf name qual params body scope dV kV doc pm an cdv ct) ps sp := by
  refine ⟨len, fun A outer s H args us vs Q E hr e0 hb r hsp => ?_⟩
  have hl := len _ _ _ _ hsp
  have KX : K.In s.heap := e0.mod.kin.keeps fun b o e => (e0.bs b o e).1
  have lim : s.heap.NoLimit := e0.mod.nolimit.keeps fun b o e => (e0.bs b o e).1
  have hkind : ∀ y ∈ ps.zip us, scope.names.lookup y.1 = some .local ∨ (scope.names.lookup y.1 = some .cell ∧ ((cellsFrom (s.heap.objs.size + 1) scope.names []).lookup y.1).isSome = true) := fun ⟨n, v⟩ hy => by
    rcases S.par n (List.of_mem_zip hy).1 with q | q
    · exact .inl q
    · exact .inr ⟨q, PySem.W.cellsFrom_some _ _ _ (.inl q)⟩
  refine codeAny_call_function hr.depth (KX _ _ lk) rfl S.co S.gen rfl (PySem.W.codeRec_of KX hcd) (hb _ _ _ _ ?_)
  refine wpAny_newFunctionEnv_cells S.kind hkind fun env he s1 x => ?_
  subst he
  refine ⟨lim.keeps x.toInCall.keep, codeAny_func ?_⟩
  obtain ⟨t, ht, hq⟩ := hbody A outer s H vs Q E (hr.deeper _) hsp
  have I : Inv (cxOf CX P w K mg base N qual scope f cdv A outer s H E) [] (start N vs) H s1 := inv_start S hr.hd e0 hl r x
  refine wpAny_mono (ht [] s1 (start N vs) H _ I hq) (fun fl s' hs => ?_) fun e s' hs => hs
  have fin : ∀ {σ' : St} {H' : Hp} {v : V} {u : Value}, Inv (cxOf CX P w K mg base N qual scope f cdv A outer s H E) [] σ' H' s' → RelV v u → Q v H' → CE outer P w H s Q u s' :=
    fun {σ' H' v u} J rv q => ⟨v, H', J.os, J.bare, J.base, J.hok, rv, q⟩
  cases fl with
  | ret u =>
    obtain ⟨v, σ', H', J, rv, q⟩ := hs
    exact fin J rv q
  | next =>
    obtain ⟨σ', H', J, q⟩ := hs
    exact fin (v := V.non) (u := Value.none) J rfl q
  | brk =>
    obtain ⟨_, _, _, q⟩ := hs
    exact False.elim q
  | cont =>
    obtain ⟨_, _, _, q⟩ := hs
    exact False.elim q
end L2

namespace L2
open PySem PySem.Spec PyProof.Rows
section
variable {X : Cx} {x : Str} {p pos : Pos} {e : Expr} {es : List Expr} {t : TA} {id T : String} {r : List V → Hp → VK → Prop}

def tCB (r : List V → Hp → VK → Prop) (t : TA) : TE := fun σ H Q => t σ H fun vs H1 => r vs H1 Q
/-- f(e, ..), f a built-in function -/
theorem pe_callB (hc : CallR X (.builtin id) r) (hg : Gl X x) (hm : X.mg x = none) (hv : bootBuiltins x = some (.builtin id)) (ha : PA X (e :: es) t) (hn : x ≠ "__name__" := by decide) (hdb : (x == ("__debug__" : Str)) = false := by decide)
    (he : starEach (e :: es) X.env = (false, eval e X.env) :: starEach es X.env := by rfl) (hpl : (backTo pos (starEach es X.env)).any (·.1) = false := by rfl) : PE X (.Call (.Name x p) (e :: es) [] pos) (tCB r t) := by
  intro pins s σ H Q I h
  refine wpAny_Call_Name_kw (ld_blt I hg hm hv ?_ hn hdb)
  exact PyProof.Rows.callWith_builtin1 (thn (ha pos pins s σ H _ I h) fun us s1 ⟨vs, H1, I1, r1, q1⟩ => hc pins s1 σ H1 vs us Q I1 r1 q1) he hpl
/-- T(e, ..), T a built-in type -/
theorem pe_callTy (hc : CallR X (.type T) r) (hg : Gl X x) (hm : X.mg x = none) (hv : bootBuiltins x = some (.type T)) (ha : PA X (e :: es) t) (hn : x ≠ "__name__" := by decide) (hdb : (x == ("__debug__" : Str)) = false := by decide)
    (he : starEach (e :: es) X.env = (false, eval e X.env) :: starEach es X.env := by rfl) (hpl : (backTo pos (starEach es X.env)).any (·.1) = false := by rfl) : PE X (.Call (.Name x p) (e :: es) [] pos) (tCB r t) := by
  intro pins s σ H Q I h
  refine wpAny_Call_Name_kw (ld_blt I hg hm hv ?_ hn hdb)
  exact PyProof.Rows.callWith_type1 (thn (ha pos pins s σ H _ I h) fun us s1 ⟨vs, H1, I1, r1, q1⟩ => hc pins s1 σ H1 vs us Q I1 r1 q1) he hpl
end
end L2

namespace HT
open PySem PyProof.Rows

/-- t < u of tuples of ints -/
def lexLt : List Int → List Int → Bool
  | [], [] => false
  | [], _ :: _ => true
  | _ :: _, [] => false
  | x :: xs, y :: ys => if x = y then lexLt xs ys else decide (x < y)
theorem lexLt_cons (x y : Int) (xs ys : List Int) : lexLt (x :: xs) (y :: ys) = if x = y then lexLt xs ys else decide (x < y) := rfl
theorem lexLt_nil_nil : lexLt [] [] = false := rfl
theorem lexLt_nil_cons (y : Int) (ys : List Int) : lexLt [] (y :: ys) = true := rfl
theorem lexLt_cons_nil (x : Int) (xs : List Int) : lexLt (x :: xs) [] = false := rfl

theorem eqAt_int (A : Around) (s : Shared) (a : Int) (t : Tok) (c : Int) (u : Tok) : ∃ e, SeqAt.EqAt A s (.int a t) (.int c u) e ∧ (e = true ↔ a = c) :=
  ⟨(a == c), SeqAt.EqAt.int_int a t c u, by simp⟩
theorem rcLt_int (A : Around) (s : Shared) (a : Int) (t : Tok) (c : Int) (u : Tok) (prog : Program) (w : World) (E : Value → Shared → Prop) (Q : Value → Shared → Prop) (h : Q (.bool (decide (a < c))) s) :
    wpAny (model prog w) A (richCompare .Lt (.int a t) (.int c u)) Q E s :=
  (PyProof.Rows.lt_int h : wpAny (model prog w) A (compareOp .Lt (.int a t) (.int c u)) Q E s)

section
open PySem.SeqAt
open PySem.AutoSeq1 (wpAny_loadPart')
open PySem.MeetsSeq PySem.MeetsSeq2 PySem.MeetsSeq3

theorem tuple_lt_ints (l b : Addr) (items items2 : Array Value) (n n2 : Nat) (dd dd2 : Option Addr) (sl sl2 : Array (Option Value)) (ns ms : List Int) (hi : IntsAre items.toList ns) (hj : IntsAre items2.toList ms) :
    Meets (Builtin.«tuple.__lt__» ⟨[.ref l, .ref b], []⟩)
      (fun _ R s => s.heap.get? l = some { cls := .type "tuple", dict := dd, data := .seq items n, slots := sl } ∧ s.heap.get? b = some { cls := .type "tuple", dict := dd2, data := .seq items2 n2, slots := sl2 } ∧
        R (.ok (.ret (.bool (lexLt ns ms)))) s) :=
  .of_wp fun prog w A R s h => by
    obtain ⟨hp, g, d, tk, os⟩ := s; obtain ⟨hl, hb, h⟩ := h
    have f2 := AutoSeq1.sub_tuple_tuple
    have z1 : items.size = ns.length := by rw [← hi.length]; simp
    have z2 : items2.size = ms.length := by rw [← hj.length]; simp
    wp_walk using wpAny_loadPart' hl, wpAny_loadPart' hb, wpAny_forIn_list _ (fun rest b s' => b.1 = none ∧ s' = ⟨hp, g, d, tk, os⟩ ∧ ∃ (vs ws : List Value) (ns' ms' : List Int), rest = vs.zip ws ∧
      IntsAre vs ns' ∧ IntsAre ws ms' ∧ ns'.length + items2.size = ms'.length + items.size ∧ R (.ok (.ret (.bool (lexLt ns' ms')))) ⟨hp, g, d, tk, os⟩) _
    case turn =>
      rintro ⟨y, x⟩ rest b s' ⟨hb', rfl, vs, ws, ns', ms', hz, hvi, hwi, hlen, hR⟩
      cases hvi with
      | nil => rw [List.zip_nil_left] at hz; cases hz
      | cons a t hvi' =>
        cases hwi with
        | nil => rw [List.zip_nil_right] at hz; cases hz
        | cons c u hwi' =>
          rw [List.zip_cons_cons] at hz
          injection hz with hyx hrest
          injection hyx with hy hx
          subst hy hx
          rw [lexLt_cons] at hR
          simp only [List.length_cons] at hlen
          obtain ⟨e, he, hiff⟩ := eqAt_int A.in1 ⟨hp, g, d, tk, os⟩ a t c u
          refine wpAny_bind (he prog w _ _ ?_)
          cases e with
          | true =>
            rw [if_pos (hiff.mp rfl)] at hR
            wp_walk
            exact ⟨rfl, rfl, _, _, _, _, hrest, hvi', hwi', by omega, hR⟩
          | false =>
            rw [if_neg (fun q => absurd (hiff.mpr q) Bool.false_ne_true)] at hR
            have hri := rcLt_int A.in1 ⟨hp, g, d, tk, os⟩ a t c u prog w
            wp_walk using hri
            exact ⟨_, rfl, by simpa using hR⟩
    case fin =>
      rintro ⟨b1, b2⟩ s' ⟨hb', rfl, vs, ws, ns', ms', hz, hvi, hwi, hlen, hR⟩
      simp only at hb'
      subst hb'
      have hv : lexLt ns' ms' = decide (items.size < items2.size) := by
        cases hvi with
        | nil =>
          cases hwi with
          | nil =>
            simp only [List.length_nil] at hlen
            rw [lexLt_nil_nil]
            exact (decide_eq_false (by omega)).symm
          | cons c u hw =>
            simp only [List.length_nil, List.length_cons] at hlen
            rw [lexLt_nil_cons]
            exact (decide_eq_true (by omega)).symm
        | cons a t hv =>
          cases hwi with
          | nil =>
            simp only [List.length_nil, List.length_cons] at hlen
            rw [lexLt_cons_nil]
            exact (decide_eq_false (by omega)).symm
          | cons c u hw =>
            rw [List.zip_cons_cons] at hz
            cases hz
      rw [hv] at hR
      wp_walk
      exact ⟨_, rfl, by simpa [Builtin.Tuple.tupleCompareSizes] using hR⟩
    case h =>
      exact ⟨rfl, rfl, items.toList, items2.toList, ns, ms, rfl, hi, hj, by omega, h⟩
end

section
variable {prog : Program} {w : World} {A : Around} {E : Value → Shared → Prop} {s : Shared}

theorem lt_tupInts {l b : Addr} {items items2 : Array Value} {ns ms : List Int} {Q : Value → Shared → Prop} (hl : IsTup s.heap l items) (hb : IsTup s.heap b items2) (hi : IntsAre items.toList ns) (hj : IntsAre items2.toList ms)
    (hu : A.units < cLine) (h : Q (.bool (lexLt ns ms)) s) : wpAny (model prog w) A (compareOp .Lt (.ref l) (.ref b)) Q E s := by
  obtain ⟨⟨cls, dd, data, sl⟩, ho, hc, n, hd⟩ := id hl
  obtain ⟨⟨cls2, dd2, data2, sl2⟩, ho2, hc2, n2, hd2⟩ := id hb
  simp only at hc hd hc2 hd2
  subst hc hd hc2 hd2
  exact richCompare_meets_room (op := .Lt) ⟨_, ho, rfl⟩ ⟨_, ho2, rfl⟩ PySem.F.slot_tuple_lt PySem.F.entry_tuple_lt (PySem.F.args_tuple_lt_2 _ _) (tuple_lt_ints l b items items2 n n2 dd dd2 sl sl2 ns ms hi hj)
    ⟨ho, ho2, show Value.bool (lexLt ns ms) ≠ Value.notImplemented ∧ Q (.bool (lexLt ns ms)) s from ⟨(fun x => nomatch x), h⟩⟩ hu

/-! ### t[a:b], not the whole -/
/-- a slice's bound as a place among n (d where it is left out) -/
def sIx (n d : Nat) : Option Int → Nat
  | none => d
  | some v => if v < 0 then (v + (n : Int)).toNat else min v.toNat n
theorem sIx_le (n d : Nat) (hd : d ≤ n) (o : Option Int) : sIx n d o ≤ n := by
  cases o with
  | none => exact hd
  | some v =>
    show (if v < 0 then (v + (n : Int)).toNat else min v.toNat n) ≤ n
    by_cases hv : v < 0
    · rw [if_pos hv]; omega
    · rw [if_neg hv]; exact Nat.min_le_right _ _
theorem clip_eq (v : Int) (n d : Nat) : (if v < 0 then max (v + (n : Int)) 0 else min v (n : Int)) = ((sIx n d (some v) : Nat) : Int) := by
  show (if v < 0 then max (v + (n : Int)) 0 else min v (n : Int)) = (((if v < 0 then (v + (n : Int)).toNat else min v.toNat n) : Nat) : Int)
  by_cases hv : v < 0
  · simp only [if_pos hv]; omega
  · simp only [if_neg hv]; omega
theorem adjust_gen (lo hi : Option Int) (n : Nat) : Builtin.Slice.sliceAdjust lo hi 1 (n : Int) = (((sIx n 0 lo : Nat) : Int), ((sIx n n hi : Nat) : Int)) := by
  have h1 : ¬ ((1 : Int) < 0) := by omega
  unfold Builtin.Slice.sliceAdjust
  simp only [h1, if_false]
  refine Prod.ext ?_ ?_
  · cases lo with
    | none => rfl
    | some v => exact clip_eq v n 0
  · cases hi with
    | none => rfl
    | some v => exact clip_eq v n n
theorem places_gen (i j : Nat) : Builtin.Slice.slicePlaces (i : Int) (j : Int) 1 = j - i := by
  unfold Builtin.Slice.slicePlaces
  have h1 : (1 : Int) > 0 := by omega
  simp only [h1, if_true, Int.ediv_one]
  split <;> omega
theorem slicePart_ {v : Value} {o : Option Int} {Q : Option Int → Shared → Prop} (p : IsPart v o) (h : Q o s) : wpAny (model prog w) A (Builtin.Slice.slicePartIndex v) Q E s := by
  cases p with
  | none => exact slicePart_none h
  | int i t => exact slicePart_int h
theorem sliceApplied_gen {sl : Addr} {vl vu : Value} {lo hi : Option Int} {n : Nat} {Q : Int × Int × Nat → Shared → Prop} (hs : s.heap.IsSliceOf sl vl vu .none) (pl : IsPart vl lo) (pu : IsPart vu hi)
    (h : Q (((sIx n 0 lo : Nat) : Int), 1, sIx n n hi - sIx n 0 lo) s) : wpAny (model prog w) A (Builtin.Slice.sliceApplied (.ref sl) (pure (n : Int))) Q E s := by
  obtain ⟨os, hos, hcs, hds⟩ := id hs
  unfold Builtin.Slice.sliceApplied Builtin.Slice.sliceFields
  refine wpAny_bind (wpAny_bind (wpAny_field hos hds (x := vl) rfl (wpAny_bind (wpAny_field hos hds (x := vu) rfl (wpAny_bind (wpAny_field hos hds (x := .none) rfl (wpAny_pure ?_)))))))
  refine wpAny_bind (slicePart_none ?_)
  show wpAny _ _ (if ((1 : Int) == 0) = true then _ else _) _ _ s
  rw [if_neg (by decide)]
  refine wpAny_bind (slicePart_ pl (wpAny_bind (slicePart_ pu (wpAny_bind (wpAny_pure ?_)))))
  show wpAny _ _ (match Builtin.Slice.sliceAdjust lo hi 1 (n : Int) with | (lo, hi) => pure (lo, (1 : Int), Builtin.Slice.slicePlaces lo hi 1)) _ _ s
  rw [adjust_gen lo hi n]
  show wpAny _ _ (pure (((sIx n 0 lo : Nat) : Int), (1 : Int), Builtin.Slice.slicePlaces ((sIx n 0 lo : Nat) : Int) ((sIx n n hi : Nat) : Int) 1)) _ _ s
  rw [places_gen]
  exact wpAny_pure h
theorem pick_gen (xs : Array Value) (i k : Nat) : ((List.range k).filterMap fun (m : Nat) => xs[((i : Int) + (m : Int) * 1).toNat]?).toArray = ((xs.toList.drop i).take k).toArray := by
  have e : (fun (m : Nat) => xs[((i : Int) + (m : Int) * 1).toNat]?) = fun m => xs[i + m]? := by
    funext m
    have : ((i : Int) + (m : Int) * 1).toNat = i + m := by omega
    rw [this]
  rw [e]
  have := pick_run xs i k
  rw [List.filterMap_map] at this
  have e2 : ((fun x => xs[x]?) ∘ fun x => i + x) = fun m => xs[i + m]? := rfl
  rw [e2] at this
  rw [this]

theorem getItem_tuple_cut {t sl : Addr} {items : Array Value} {vl vu : Value} {lo hi : Option Int} {Q : Value → Shared → Prop} (ht : IsTup s.heap t items) (hs : s.heap.IsSliceOf sl vl vu .none) (pl : IsPart vl lo) (pu : IsPart vu hi)
    (hw : ¬ (sIx items.size 0 lo = 0 ∧ sIx items.size items.size hi = items.size))
    (h : Q (.ref s.heap.objs.size) { s with heap := s.heap.push { cls := .type "tuple", data := .seq ((items.toList.drop (sIx items.size 0 lo)).take (sIx items.size items.size hi - sIx items.size 0 lo)).toArray } })
    (hsz : items.size ≤ sizeLine) : wpAny (model prog w) A (getItem (.ref t) (.ref sl)) Q E s := by
  have htake : sizeOk (.seq ((items.toList.drop (sIx items.size 0 lo)).take (sIx items.size items.size hi - sIx items.size 0 lo)).toArray) := by
    show ((items.toList.drop (sIx items.size 0 lo)).take (sIx items.size items.size hi - sIx items.size 0 lo)).toArray.size ≤ sizeLine
    rw [List.size_toArray, List.length_take, List.length_drop, Array.length_toList]
    omega
  have hj : sIx items.size items.size hi ≤ items.size := sIx_le _ _ (Nat.le_refl _) hi
  obtain ⟨os, hos, hcs, hds⟩ := id hs
  have hTs : s.TypeIs (.ref sl) "slice" := ⟨os, hos, hcs⟩
  unfold getItem
  try with_reducible refine wpAny_holding ?_
  first | refine wpAny_bind (wpAny_pure ?_) | skip
  refine wpAny_bind (wpAny_sequenceKey ht.typeIs (by decide) ?_)
  refine wpAny_bind (wpAny_callSpecial?_slot (name := Str.ofString "__getitem__") ht.typeIs PyProof.Rows.slot_tuple_getitem
    (wpAny_call_entry PyProof.Rows.slot_tuple_getitem ht.typeIs entry_tuple_getitem ?_ (args_tuple_getitem _ _)))
  show wpAny _ _ (Builtin.Tuple.tupleItemsOf (.ref t) >>= _) _ _ s
  refine wpAny_bind (tupleItemsOf_ ht ?_)
  refine wpAny_bind (wpAny_typeOf hTs ?_)
  rw [if_pos (by decide)]
  refine wpAny_bind (sliceApplied_gen hs pl pu ?_)
  have hno : ¬ ((((sIx items.size 0 lo : Nat) : Int) == 0 && (1 : Int) == 1 && (sIx items.size items.size hi - sIx items.size 0 lo) == items.size) = true) := by
    intro q
    rw [Bool.and_eq_true, Bool.and_eq_true] at q
    have q1 : ((sIx items.size 0 lo : Nat) : Int) = 0 := eq_of_beq q.1.1
    have q2 : sIx items.size items.size hi - sIx items.size 0 lo = items.size := eq_of_beq q.2
    exact hw ⟨by omega, by omega⟩
  show wpAny _ _ (if (((sIx items.size 0 lo : Nat) : Int) == 0 && (1 : Int) == 1 && (sIx items.size items.size hi - sIx items.size 0 lo) == items.size) = true then _ else _) _ _ s
  rw [if_neg hno, pick_gen]
  first
    | exact wpAny_bind (m := Builtin.Tuple.tupleExact _) (wpAny_newObj_type (wpAny_pure ⟨_, rfl, wpAny_pure h⟩) htake)
    | exact wpAny_bind (m := Builtin.Tuple.tupleExact _) (wpAny_newObj_type (wpAny_bind (wpAny_pure (wpAny_pure ⟨_, rfl, wpAny_pure h⟩))) htake)
    | exact wpAny_bind (wpAny_bind (m := Builtin.Tuple.tupleExact _) (wpAny_newObj_type (wpAny_pure (wpAny_pure ⟨_, rfl, wpAny_pure h⟩)) htake))
    | exact wpAny_bind (wpAny_bind (m := Builtin.Tuple.tupleExact _) (wpAny_newObj_type (wpAny_pure ⟨_, rfl, wpAny_pure h⟩) htake))
end
end HT

namespace L2
open PySem PySem.Spec PyProof.Rows

/-! ### the parts of a slice -/
abbrev TO := St → Hp → (Option Int → Hp → Prop) → Prop
/-- a slice's part (left out, or an int) -/
def PO (X : Cx) (e : Option Expr) (t : TO) : Prop :=
  ∀ (pins : List (Addr × Obj)) (s : Shared) (σ : St) (H : Hp) (Q : Option Int → Hp → Prop), Inv X pins σ H s → t σ H Q →
    wpAny (model X.prog X.w) X.A (evalPart e X.env) (fun u s' => ∃ o H', Inv X pins σ H' s' ∧ IsPart u o ∧ Q o H') X.xe s
def tNoPart : TO := fun _ H Q => Q none H
def tPart (t : TE) : TO := fun σ H Q => t σ H fun x H1 => ∃ i, x = .int i ∧ Q (some i) H1

theorem intsAre_of {ns : List Int} : ∀ {us : List Value}, Vals (ns.map V.int) us → IntsAre us ns := by
  induction ns with
  | nil => intro us r; rw [List.map_nil] at r; cases r; exact .nil
  | cons n ns ih =>
    intro us r
    rw [List.map_cons] at r
    cases r with
    | cons r1 r2 =>
      obtain ⟨t, e⟩ := r1
      subst e
      exact .cons n t (ih r2)

section
variable {X : Cx} {e : Expr} {te : TE} {lo hi : Option Expr} {tl th : TO} {pos p2 : Pos}

theorem po_none : PO X none tNoPart := by
  intro pins s σ H Q I h
  rw [evalPart_none]
  exact wpAny_pure ⟨none, H, I, .none, h⟩
theorem po_some (h : PE X e te) : PO X (some e) (tPart te) := by
  intro pins s σ H Q I hw
  rw [evalPart_some]
  refine thn (h pins s σ H _ I hw) fun u s1 ⟨x, H1, I1, r1, q1⟩ => ?_
  obtain ⟨i, rfl, q⟩ := q1
  obtain ⟨t, rfl⟩ := r1
  exact ⟨some i, H1, I1, .int i t, q⟩

/-- what a slice of a value is, by values: the slice object stands at sl -/
def SlR (X : Cx) (r : V → Option Int → Option Int → Hp → VK → Prop) : Prop :=
  ∀ (pins : List (Addr × Obj)) (s : Shared) (σ : St) (H : Hp) (x : V) (v vl vu : Value) (lo hi : Option Int) (sl : Addr) (Q : VK), Inv X pins σ H s → RelV x v → s.heap.IsSliceOf sl vl vu .none → IsPart vl lo → IsPart vu hi → r x lo hi H Q →
    ∃ T id, typeLookup (.type T) "__getitem__" = pure (some (.builtin id)) ∧ s.TypeIs v T ∧ wpAny (model X.prog X.w) X.A (getItem v (.ref sl)) (EP X pins σ Q) X.xe s
theorem SlR.or {r r' : V → Option Int → Option Int → Hp → VK → Prop} (h : SlR X r) (h' : SlR X r') : SlR X (fun x lo hi H Q => r x lo hi H Q ∨ r' x lo hi H Q) := by
  intro pins s σ H x v vl vu lo hi sl Q I rx hs pl pu q
  rcases q with q | q
  · exact h pins s σ H x v vl vu lo hi sl Q I rx hs pl pu q
  · exact h' pins s σ H x v vl vu lo hi sl Q I rx hs pl pu q
def tSl (r : V → Option Int → Option Int → Hp → VK → Prop) (te : TE) (tl th : TO) : TE := fun σ H Q => te σ H fun x H1 => tl σ H1 fun l H2 => th σ H2 fun u H3 => r x l u H3 Q
/-- a[lo:hi], any a -/
theorem pe_slice {r : V → Option Int → Option Int → Hp → VK → Prop} (hr : SlR X r) (he : PE X e te) (hl : PO X lo tl) (hu : PO X hi th) : PE X (.Subscript e (.Slice lo hi none p2) pos) (tSl r te tl th) := by
  intro pins s σ H Q I h
  refine Subscript_ (thn (he pins s σ H _ I h) fun v s1 ⟨x, H1, I1, r1, q1⟩ => ?_)
  refine wpAny_Slice (thn (hl pins s1 σ H1 _ I1 q1) fun vl s2 ⟨l, H2, I2, pl, q2⟩ => thn (hu pins s2 σ H2 _ I2 q2) fun vu s3 ⟨u, H3, I3, pu, q3⟩ => ?_)
  rw [evalPart_none]
  refine wpAny_pure ?_
  have I4 : Inv X pins σ H3 { s3 with heap := s3.heap.push { cls := .type "slice", data := .fields #[vl, vu, .none] } } := I3.kept (t' := s3.toks) fun b ob q => Heap.get?_push_of_some _ q
  obtain ⟨T, id, hT, ht, hg⟩ := hr pins { s3 with heap := s3.heap.push { cls := .type "slice", data := .fields #[vl, vu, .none] } } σ H3 x v vl vu l u s3.heap.objs.size Q I4 r1 (Heap.IsSliceOf.new ..) pl pu q3
  show wpAny (model X.prog X.w) X.A (subscriptTail e (.Slice lo hi none p2) v (.ref s3.heap.objs.size)) (EP X pins σ Q) X.xe { s3 with heap := s3.heap.push { cls := .type "slice", data := .fields #[vl, vu, .none] } }
  exact tail_any (ops := [.ref s3.heap.objs.size, v]) ht hT hg (by with_unfolding_all rfl)

/-- the items of xs[lo:hi] -/
def cutV (xs : List V) (lo hi : Option Int) : List V := (xs.drop (HT.sIx xs.length 0 lo)).take (HT.sIx xs.length xs.length hi - HT.sIx xs.length 0 lo)
theorem cutV_length (xs : List V) (lo hi : Option Int) : (cutV xs lo hi).length ≤ xs.length := by
  unfold cutV
  rw [List.length_take, List.length_drop]
  omega
/-- t[lo:hi], not the whole of it (the whole would be t itself) -/
def rSlT (K : PySem.W.Frag) : V → Option Int → Option Int → Hp → VK → Prop := fun x lo hi H Q => ∃ a xs, x = .ref a ∧ SqT K H a xs ∧
  ¬ (HT.sIx xs.length 0 lo = 0 ∧ HT.sIx xs.length xs.length hi = xs.length) ∧ ∀ p, H p = none → Q (.ref p) (upd H p (.tup (cutV xs lo hi)))
theorem sl_tup : SlR X (rSlT X.K) := by
  intro pins s σ H x v vl vu lo hi sl Q I rx hs pl pu h
  obtain ⟨a, xs, rfl, hx, hw, q⟩ := h
  cases rx
  obtain ⟨its, r, ht, hz⟩ := I.tuple hx
  have hlen : its.toArray.size = xs.length := by rw [List.size_toArray]; exact r.length.symm
  refine ⟨"tuple", _, PyProof.Rows.slot_tuple_getitem.lookup, ht.typeIs, ?_⟩
  refine HT.getItem_tuple_cut ht hs pl pu (by rw [hlen]; exact hw) ?_ (by rw [hlen]; exact hz)
  rw [hlen]
  refine ⟨.ref s.heap.objs.size, _, I.laid (t' := s.toks) (o := .tup (cutV xs lo hi)) (fun b ob q => Heap.get?_push_of_some _ q) (Nat.le_refl _) ?_, rfl, q _ (I.hok.fresh (Nat.le_refl _))⟩
  exact ⟨Nat.le_trans (cutV_length xs lo hi) hz, _, (r.drop (HT.sIx xs.length 0 lo)).take (HT.sIx xs.length xs.length hi - HT.sIx xs.length 0 lo), IsTup.new _ _⟩

/-! ### t < u, t + u -/
end
end L2

namespace L2
open PySem PySem.Spec PyProof.Rows

/-! ### places -/
/-- the place that an index of any sign means -/
def ixN (n : Nat) (i : Int) : Option Nat := if 0 ≤ i then (if i < n then some i.toNat else none) else if -(n : Int) ≤ i then some (i + n).toNat else none
def atI {α : Type} (xs : List α) (i : Int) : Option α := (ixN xs.length i).bind fun j => xs[j]?
theorem ixN_seq {n : Nat} {i : Int} {j : Nat} (h : ixN n i = some j) : seqIndex? i n = some j ∧ j < n ∧ -(n : Int) ≤ i ∧ i < n := by
  unfold ixN at h
  by_cases h0 : 0 ≤ i
  · rw [if_pos h0] at h
    by_cases h1 : i < n
    · rw [if_pos h1] at h
      have e : i.toNat = j := Option.some.inj h
      exact ⟨by rw [seqIndex_of h0 h1, e], by omega, by omega, h1⟩
    · rw [if_neg h1] at h; cases h
  · rw [if_neg h0] at h
    by_cases h1 : -(n : Int) ≤ i
    · rw [if_pos h1] at h
      have e : (i + n).toNat = j := Option.some.inj h
      exact ⟨by rw [seqIndex_neg (by omega) h1, e], by omega, h1, by omega⟩
    · rw [if_neg h1] at h; cases h
theorem atI_get {α : Type} {xs : List α} {i : Int} {v : α} (h : atI xs i = some v) : ∃ j, seqIndex? i xs.length = some j ∧ xs[j]? = some v ∧ j < xs.length ∧ -(xs.length : Int) ≤ i ∧ i < xs.length := by
  unfold atI at h
  cases e : ixN xs.length i with
  | none => rw [e] at h; cases h
  | some j =>
    rw [e] at h
    obtain ⟨h1, h2, h3, h4⟩ := ixN_seq e
    exact ⟨j, h1, h, h2, h3, h4⟩
/-! ### what may be subscripted -/
/-- what stands as an index of a plain subscript -/
def PlainIx (b : Expr) : Prop := ∀ o i, subscripted b false o i = operate [o, i] (getItem o i)
/-- a subscript by values -/
def IxR (X : Cx) (r : R2) : Prop :=
  ∀ (value slice : Expr) (pins : List (Addr × Obj)) (s : Shared) (σ : St) (H : Hp) (x y : V) (v u : Value) (Q : VK), Inv X pins σ H s → RelV x v → RelV y u → r x y H Q →
    subscripted slice false v u = operate [v, u] (getItem v u) → wpAny (model X.prog X.w) X.A (subscriptTail value slice v u) (EP X pins σ Q) X.xe s
/-- a call of a builtin's method by values: the receiver, the arguments -/
def MtR (X : Cx) (id : String) (r : V → List V → Hp → VK → Prop) : Prop :=
  ∀ (pins : List (Addr × Obj)) (s : Shared) (σ : St) (H : Hp) (x : V) (xs : List V) (v : Value) (us : List Value) (Q : VK), Inv X pins σ H s → RelV x v → Vals xs us → r x xs H Q →
    wpAny (model X.prog X.w) X.A (call (.builtin id) (v :: us)) (EP X pins σ Q) X.xe s
section
variable {X : Cx} {a b : Expr} {ta tb : TE} {pos : Pos}
theorem IxR.or {r r' : R2} (h : IxR X r) (h' : IxR X r') : IxR X (fun x y H Q => r x y H Q ∨ r' x y H Q) := by
  intro value slice pins s σ H x y v u Q I rx ry q hs
  rcases q with q | q
  · exact h value slice pins s σ H x y v u Q I rx ry q hs
  · exact h' value slice pins s σ H x y v u Q I rx ry q hs
theorem MtR.or {id : String} {r r' : V → List V → Hp → VK → Prop} (h : MtR X id r) (h' : MtR X id r') : MtR X id (fun x xs H Q => r x xs H Q ∨ r' x xs H Q) := by
  intro pins s σ H x xs v us Q I rx rs q
  rcases q with q | q
  · exact h pins s σ H x xs v us Q I rx rs q
  · exact h' pins s σ H x xs v us Q I rx rs q
/-- a[b] -/
theorem pe_ix {r : R2} (hr : IxR X r) (ha : PE X a ta) (hb : PE X b tb) (hs : PlainIx b) : PE X (.Subscript a b pos) (tOp r ta tb) := by
  intro pins s σ H Q I h
  exact Subscript_ (binT ha hb I h fun v u s2 x y H2 I2 rx ry q => hr a b pins s2 σ H2 x y v u Q I2 rx ry q (hs _ _))

def rIxL (K : PySem.W.Frag) : R2 := fun x y H Q => ∃ p xs i v, x = .ref p ∧ y = .int i ∧ SqL K H p xs ∧ atI xs i = some v ∧ Q v H
def rIxT (K : PySem.W.Frag) : R2 := fun x y H Q => ∃ p xs i v, x = .ref p ∧ y = .int i ∧ SqT K H p xs ∧ atI xs i = some v ∧ Q v H
theorem ix_list : IxR X (rIxL X.K) := by
  intro value slice pins s σ H x y v u Q I rx ry h hs
  obtain ⟨p, xs, i, z, rfl, rfl, hq, he, q⟩ := h
  cases rx
  obtain ⟨t, rfl⟩ := ry
  obtain ⟨its, r, pl, hz⟩ := I.list hq
  obtain ⟨j, h1, h2, h3, h4, h5⟩ := atI_get he
  obtain ⟨w, ew, rw'⟩ := r.get h2
  have hl := r.length
  have hn := line63
  have fin : EP X pins σ Q w s := ⟨z, H, I, rw', q⟩
  by_cases h0 : 0 ≤ i
  · have hj : i.toNat = j := by
      rw [seqIndex_of h0 h5] at h1
      exact Option.some.inj h1
    exact item_listR pl.isList h0 (by omega) (by rw [hj]; simpa using ew) fin hs
  · have hj : (i + (its.toArray.size : Int)).toNat = j := by
      rw [seqIndex_neg (by omega) h4] at h1
      rw [List.size_toArray, ← hl]
      exact Option.some.inj h1
    exact subscriptTail_builtinR (x := w) pl.isList.typeIs slot_list_getitem.lookup
      (wpAny_getItem_list_neg (Q := fun r s' => r = w ∧ EP X pins σ Q r s') pl.isList (by omega) (by rw [List.size_toArray] <;> omega) (by omega) (by rw [hj]; simpa using ew) ⟨rfl, fin⟩) hs
theorem ix_tup : IxR X (rIxT X.K) := by
  intro value slice pins s σ H x y v u Q I rx ry h hs
  obtain ⟨p, xs, i, z, rfl, rfl, hq, he, q⟩ := h
  cases rx
  obtain ⟨t, rfl⟩ := ry
  obtain ⟨its, r, pl, hz⟩ := I.tuple hq
  obtain ⟨j, h1, h2, h3, h4, h5⟩ := atI_get he
  obtain ⟨w, ew, rw'⟩ := r.get h2
  have hl := r.length
  have hn := line63
  have fin : EP X pins σ Q w s := ⟨z, H, I, rw', q⟩
  exact subscriptTail_builtinR (x := w) pl.typeIs slot_tuple_getitem.lookup
    (getItem_tuple (j := j) (Q := fun r s' => r = w ∧ EP X pins σ Q r s') pl (by omega) (by omega) (by rw [List.size_toArray, ← hl]; exact h1) (by simpa using ew) ⟨rfl, fin⟩) hs
/-! ### xs[i] = v, any sign -/
/-- the list's object behind a store -/
theorem mapSeq_set (its : List Value) (n j : Nat) (u : Value) : Obj.mapSeq (·.setIfInBounds j u) { cls := .type "list", data := .seq its.toArray n } = { cls := .type "list", data := .seq (its.set j u).toArray n } := by
  simp [Obj.mapSeq]
theorem Inv.lst {pins : List (Addr × Obj)} {σ : St} {H : Hp} {s : Shared} {p : Addr} {xs : List V} (I : Inv X pins σ H s) (h : H p = some (.lst xs)) :
    ∃ (its : List Value) (n : Nat), Vals xs its ∧ s.heap.get? p = some { cls := .type "list", data := .seq its.toArray n } ∧ xs.length ≤ sizeLine := by
  obtain ⟨z, its, n, r, e⟩ := I.hok p _ h
  exact ⟨its, n, r, e, z⟩
/-- the list at p is written by an update of its object -/
theorem Inv.lstUpd {pins : List (Addr × Obj)} {σ : St} {H : Hp} {s : Shared} {p : Addr} {xs ys : List V} {its its' : List Value} {n n' : Nat} {f : Obj → Obj} (I : Inv X pins σ H s) (h : H p = some (.lst xs))
    (ho : s.heap.get? p = some { cls := .type "list", data := .seq its.toArray n }) (hf : f { cls := .type "list", data := .seq its.toArray n } = { cls := .type "list", data := .seq its'.toArray n' }) (r : Vals ys its') (hz : ys.length ≤ sizeLine) (t : Nat) :
    Inv X pins σ (upd H p (.lst ys)) { s with heap := s.heap.update p f, toks := t } := by
  have e : (s.heap.update p f).get? p = some { cls := .type "list", data := .seq its'.toArray n' } := by
    rw [Heap.get?_update_self f ho (by rw [hf] <;> rfl), hf]
  refine I.write (x := p) (e := p) (by rw [h]; trivial) (.inl rfl) (fun b u hb q => (Heap.get?_update_other _ _ (Ne.symm hb)).trans q) ⟨_, e⟩ ?_
  exact ⟨hz, its', n', r, e⟩
def rSetL : V → V → V → Hp → (Hp → Prop) → Prop := fun o i v H Q => ∃ p xs k j, o = .ref p ∧ i = .int k ∧ H p = some (.lst xs) ∧ ixN xs.length k = some j ∧ Q (upd H p (.lst (xs.set j v)))
theorem set_list : PSet X rSetL := by
  intro pins s σ H o i v ov iv u Q I ro ri rv h
  obtain ⟨p, xs, k, j, rfl, rfl, hp, hj, q⟩ := h
  cases ro
  obtain ⟨t, rfl⟩ := ri
  obtain ⟨its, n, r, ho, hz⟩ := I.lst hp
  obtain ⟨h1, h2, h3, h4⟩ := ixN_seq hj
  have hl := r.length
  have hn := line63
  have I' : Inv X pins σ (upd H p (.lst (xs.set j v))) { s with heap := s.heap.update p (Obj.mapSeq (·.setIfInBounds j u)) } :=
    I.lstUpd hp ho (mapSeq_set its n j u) (r.set rv j) (by rw [List.length_set]; exact hz) s.toks
  by_cases h0 : 0 ≤ k
  · have hk : k.toNat = j := by
      rw [seqIndex_of h0 h4] at h1
      exact Option.some.inj h1
    exact PySem.W.ki_setAt ho h0 (by omega) (by rw [List.size_toArray, ← hl]; exact h4) (by rw [hk]; exact ⟨_, I', q⟩)
  · have hk : (k + (its.toArray.size : Int)).toNat = j := by
      rw [seqIndex_neg (by omega) h3] at h1
      rw [List.size_toArray, ← hl]
      exact Option.some.inj h1
    exact PySem.W.ki_setBack ho (by omega) (by rw [List.size_toArray, ← hl]; exact h3) (by omega) (by rw [hk]; exact ⟨_, I', q⟩)

/-! ### slices -/
/-! ### in, not in: flat items -/
/-! ### len, list(x), tuple(x) of any list or tuple that is read -/
theorem call_len_seq : CallR X (.builtin "len") (fun xs H Q => ∃ p ys, xs = [.ref p] ∧ (SqL X.K H p ys ∨ SqT X.K H p ys) ∧ Q (.int ys.length) H) := by
  intro pins s σ H xs us Q I r h
  obtain ⟨p, ys, rfl, hq, q⟩ := h
  obtain ⟨u, rfl, rx⟩ := vals1 r
  cases rx
  have hn := line63
  rcases hq with hq | hq
  · obtain ⟨its, r', pl, hz⟩ := I.list hq
    have hlen := r'.length
    exact Calls.call_len_list pl.isList (by simp only [List.size_toArray] <;> omega) ⟨.int ys.length, H, I.tok _, ⟨s.toks + 1, by rw [List.size_toArray, hlen]⟩, q⟩
  · obtain ⟨its, r', pl, hz⟩ := I.tuple hq
    have hlen := r'.length
    exact len_tuple pl (by simp only [List.size_toArray] <;> omega) ⟨.int ys.length, H, I.tok _, ⟨s.toks + 1, by rw [List.size_toArray, hlen]⟩, q⟩
theorem CallR.or {f : Value} {r r' : List V → Hp → VK → Prop} (h : CallR X f r) (h' : CallR X f r') : CallR X f (fun xs H Q => r xs H Q ∨ r' xs H Q) := by
  intro pins s σ H xs us Q I rs q
  rcases q with q | q
  · exact h pins s σ H xs us Q I rs q
  · exact h' pins s σ H xs us Q I rs q
theorem call_list_of : CallR X (.type "list") (fun xs H Q => ∃ p ys, xs = [.ref p] ∧ (SqL X.K H p ys ∨ SqT X.K H p ys) ∧ ∀ l, H l = none → Q (.ref l) (upd H l (.lst ys))) := by
  intro pins s σ H xs us Q I r h
  obtain ⟨p, ys, rfl, hq, q⟩ := h
  obtain ⟨u, rfl, rx⟩ := vals1 r
  cases rx
  have fin : ∀ (its : List Value), Vals ys its → ys.length ≤ sizeLine → ∀ (h' : Heap) (c' : Nat), (∀ b o', s.heap.get? b = some o' → h'.get? b = some o') →
      h'.get? s.heap.objs.size = some { cls := .type "list", dict := none, data := .seq its.toArray c', slots := #[] } → EP X pins σ Q (.ref s.heap.objs.size) { s with heap := h' } := fun its r' hz h' c' kp e =>
    ⟨.ref s.heap.objs.size, _, I.laid (t' := s.toks) kp (Nat.le_refl _) (show ObjOk X.prog X.w _ h' _ (.lst ys) from ⟨hz, its, c', r', e⟩), rfl, q _ (I.hok.fresh (Nat.le_refl _))⟩
  rcases hq with hq | hq
  · obtain ⟨its, r', pl, hz⟩ := I.list hq
    have hlen := r'.length
    obtain ⟨o, ho, hc, n, hd⟩ := pl.isList
    exact call_list_seq p (.inl rfl) ho hc hd (fun h' c' kp e => fin its r' hz h' c' kp e) (by simp only [List.size_toArray] <;> omega)
  · obtain ⟨its, r', pl, hz⟩ := I.tuple hq
    have hlen := r'.length
    obtain ⟨o, ho, hc, n, hd⟩ := pl
    exact call_list_seq p (.inr rfl) ho hc hd (fun h' c' kp e => fin its r' hz h' c' kp e) (by simp only [List.size_toArray] <;> omega)
/-! ### the call of a builtin's method: o.m(..) -/
/-- the value is of that builtin type -/
def tyV (K : PySem.W.Frag) (T : String) (x : V) (H : Hp) : Prop := match x with
  | .str _ => T = "str"
  | .int _ => T = "int"
  | .ref p => (T = "list" ∧ ∃ xs, SqL K H p xs) ∨ (T = "tuple" ∧ ∃ o, K.lookup p = some o ∧ o.cls = .type "tuple" ∧ o.dict = none) ∨
      (T = "dict" ∧ ((∃ kvs, H p = some (.dK kvs)) ∨ ∃ kvs, H p = some (.dT kvs))) ∨ (T = "set" ∧ ∃ S n, H p = some (.set S n))
  | _ => False
theorem tyV_is {pins : List (Addr × Obj)} {σ : St} {H : Hp} {s : Shared} {T : String} {x : V} {v : Value} (I : Inv X pins σ H s) (r : RelV x v) (ty : tyV X.K T x H) :
    s.TypeIs v T ∧ ∀ a, v = .ref a → ∃ ob, s.heap.get? a = some ob ∧ ob.dict = none := by
  cases x with
  | str z =>
    obtain ⟨t, rfl⟩ := r
    cases (show T = "str" from ty)
    exact ⟨typeIs_str s z t, fun _ e => nomatch e⟩
  | int i =>
    obtain ⟨t, rfl⟩ := r
    cases (show T = "int" from ty)
    exact ⟨typeIs_int s i t, fun _ e => nomatch e⟩
  | ref p =>
    cases r
    rcases ty with ⟨rfl, xs, hq⟩ | ⟨rfl, o, hk, hc, hd⟩ | ⟨rfl, hk⟩ | ⟨rfl, S, n, hk⟩
    · obtain ⟨its, _, pl, _⟩ := I.list hq
      refine ⟨pl.isList.typeIs, fun a e => ?_⟩
      cases e
      obtain ⟨o, n, e, c, hd, _⟩ := pl
      exact ⟨o, e, hd⟩
    · refine ⟨⟨o, I.kIn p o hk, hc⟩, fun a e => ?_⟩
      cases e
      exact ⟨o, I.kIn _ o hk, hd⟩
    · have z : ∃ o, s.heap.get? p = some o ∧ o.ExactDict := by
        rcases hk with ⟨kvs, hk⟩ | ⟨kvs, hk⟩
        · obtain ⟨_, _, _, _, o, _, _, e, ex, _⟩ := I.hok p _ hk
          exact ⟨o, e, ex⟩
        · obtain ⟨_, _, _, _, o, _, _, e, ex, _⟩ := I.hok p _ hk
          exact ⟨o, e, ex⟩
      obtain ⟨o, e, ex⟩ := z
      refine ⟨⟨o, e, ex.1⟩, fun a e2 => ?_⟩
      cases e2
      exact ⟨o, e, ex.2.1⟩
    · obtain ⟨o, _, _, _, e, ex, _⟩ := I.hok p _ hk
      refine ⟨⟨o, e, ex.1⟩, fun a e2 => ?_⟩
      cases e2
      exact ⟨o, e, ex.2.1⟩
  | _ => exact False.elim ty
def tBM (K : PySem.W.Frag) (T : String) (r : V → List V → Hp → VK → Prop) (to : TE) (t : TA) : TE := fun σ H Q => to σ H fun x H1 => tyV K T x H1 ∧ t σ H1 fun xs H2 => r x xs H2 Q
variable {o e : Expr} {es : List Expr} {to : TE} {t : TA} {name : Str} {apos cpos : Pos} {T id : String} {r : V → List V → Hp → VK → Prop}
theorem pe_bm (pa : PlainAttrs T) (slot : Slot T name id) (hty : typeOf (.builtin id) = pure (.type "method_descriptor")) (hm : MtR X id r) (ho : PE X o to) (ha : PA X (e :: es) t)
    (hbase : attributeBase o name X.env (eval o X.env) = eval o X.env := by rfl)
    (hfew : ((backTo cpos (starEach (e :: es) X.env)).all (fun x => !x.1) && (backToKw cpos (keywordEach [] X.env)).all (fun x => x.1.isSome)
      && decide ((e :: es).length + ([] : List Keyword).length + (if ([] : List Keyword).isEmpty then 0 else 1) < 30)) = true := by rfl)
    (hline : (apos.endLine == cpos.line) = true := by rfl) (hs : starEach (e :: es) X.env = (false, eval e X.env) :: starEach es X.env := by rfl) (hplain : (backTo cpos (starEach es X.env)).any (·.1) = false := by rfl) :
    PE X (.Call (.Attribute o name apos) (e :: es) [] cpos) (tBM X.K T r to t) := by
  intro pins s σ H Q I h
  refine wpAny_Call_method_late hbase hfew hline rfl (thn (ho pins s σ H _ I h) fun v s1 ⟨x, H1, I1, r1, ty, q1⟩ => ?_)
  obtain ⟨h1, h2⟩ := tyV_is I1 r1 ty
  refine ⟨T, id, pa, slot, hty, h1, h2, ?_⟩
  have hA := ha cpos pins s1 σ H1 _ I1 q1
  rw [hs] at hA ⊢
  refine Calls.callWith_builtin (by show (false || (backTo cpos (starEach es X.env)).any (·.1)) = false; rw [hplain] <;> rfl) (Calls.evalArgs_plain ?_)
  exact thn hA fun us s2 ⟨vs, H2, I2, r2, q2⟩ => hm pins s2 σ H2 x vs v us Q I2 r1 r2 q2
/- xs.append(e), list.index on a module's tuple .. are MtR facts of 06m -/
end
end L2

namespace L2
open PySem PySem.Spec PyProof.Rows

def MtM (X : Cx) (id : String) (r : V → List V → Hp → VK → Prop) : Prop :=
  ∀ (pins : List (Addr × Obj)) (s : Shared) (σ : St) (H : Hp) (x : V) (xs : List V) (v : Value) (us : List Value) (Q : VK), Inv X pins σ H s → RelV x v → Vals xs us → r x xs H Q →
    wpAny (model X.prog X.w) X.A (call (.builtin id) (v :: us)) (EP X pins σ Q) X.xe s

/-! ### lists of values -/
theorem Vals.one : ∀ {x : V} {us : List Value}, Vals [x] us → ∃ u, us = [u] ∧ RelV x u
  | _, _, .cons r .nil => ⟨_, rfl, r⟩
theorem Vals.two : ∀ {x y : V} {us : List Value}, Vals [x, y] us → ∃ u v, us = [u, v] ∧ RelV x u ∧ RelV y v
  | _, _, _, .cons r (.cons q .nil) => ⟨_, _, rfl, r, q⟩
theorem Vals.zero : ∀ {us : List Value}, Vals [] us → us = []
  | _, .nil => rfl
theorem Vals.reverse {xs : List V} {us : List Value} (h : Vals xs us) : Vals xs.reverse us.reverse := by
  induction h with
  | nil => exact .nil
  | cons r t ih => rw [List.reverse_cons, List.reverse_cons]; exact Vals.append ih (.cons r .nil)
theorem Vals.rep {xs : List V} {us : List Value} (h : Vals xs us) : ∀ k : Nat, Vals (List.replicate k xs).flatten (List.replicate k us).flatten
  | 0 => .nil
  | k + 1 => by
    rw [List.replicate_succ, List.replicate_succ, List.flatten_cons, List.flatten_cons]
    exact Vals.append h (Vals.rep h k)
theorem foldl_rep (its : List Value) : ∀ (k : Nat) (acc : List Value),
    List.foldl (fun x1 x2 => x1 ++ x2) acc.toArray (List.replicate k its.toArray) = (acc ++ (List.replicate k its).flatten).toArray
  | 0, acc => by simp
  | k + 1, acc => by
    have e : acc.toArray ++ its.toArray = (acc ++ its).toArray := by simp
    have e2 : (acc ++ its) ++ (List.replicate k its).flatten = acc ++ (List.replicate (k + 1) its).flatten := by
      rw [List.replicate_succ, List.flatten_cons, List.append_assoc]
    rw [← e2, ← foldl_rep its k (acc ++ its), ← e, List.replicate_succ, List.foldl_cons]

section
variable {X : Cx} {pins : List (Addr × Obj)} {σ : St} {H : Hp} {s : Shared} {l b : Addr} {xs ys zs : List V}

/-! ### the two steps: a tracked list is rewritten, a new list is laid -/
theorem Inv.lset {its its' : List Value} {n : Nat} {f : Array Value → Array Value} {t' : Nat} (I : Inv X pins σ H s) (hH : H l = some (.lst xs))
    (e : s.heap.get? l = some { cls := .type "list", data := .seq its.toArray n }) (hf : f its.toArray = its'.toArray) (hv : Vals ys its') (hz : ys.length ≤ sizeLine) :
    Inv X pins σ (upd H l (.lst ys)) { s with heap := s.heap.update l (Obj.mapSeq f), toks := t' } := by
  have q := PySem.IsL.update e f
  rw [hf] at q
  refine I.write (x := l) (e := l) (by rw [hH]; exact trivial) (.inl rfl) (fun b' u hb hu => (Heap.get?_update_other s.heap (Obj.mapSeq f) (Ne.symm hb)).trans hu) ⟨_, q⟩ ?_
  exact ⟨hz, its', _, hv, q⟩
theorem Inv.lnew {its : List Value} {t' : Nat} (I : Inv X pins σ H s) (hv : Vals ys its) (hz : ys.length ≤ sizeLine) :
    Inv X pins σ (upd H s.heap.objs.size (.lst ys)) { s with heap := s.heap.push { cls := .type "list", data := .seq its.toArray }, toks := t' } :=
  I.laid (fun _ _ q => Heap.get?_push_of_some _ q) (Nat.le_refl _) ⟨hz, its, 0, hv, Heap.get?_push_size _ rfl⟩
theorem Inv.fresh (I : Inv X pins σ H s) : H s.heap.objs.size = none := I.hok.fresh (Nat.le_refl _)
theorem Inv.lstM (I : Inv X pins σ H s) (hH : H l = some (.lst xs)) : xs.length ≤ sizeLine ∧ ∃ (its : List Value) (n : Nat), Vals xs its ∧ xs.length = its.length ∧ s.heap.get? l = some { cls := .type "list", data := .seq its.toArray n } := by
  obtain ⟨z, its, n, r, e⟩ := I.hok l _ hH
  exact ⟨z, its, n, r, r.length, e⟩

theorem notLongL {n : Nat} (h : n ≤ sizeLine) : Builtin.List.listTooLong n = false := by
  unfold Builtin.List.listTooLong
  exact decide_eq_false (by omega)
end

section
variable {X : Cx}

/-! ### methods -/
def rAppend : V → List V → Hp → VK → Prop := fun x vs H Q => ∃ l xs y, x = .ref l ∧ vs = [y] ∧ H l = some (.lst xs) ∧ xs.length < sizeLine ∧ Q .non (upd H l (.lst (xs ++ [y])))
theorem mt_append : MtM X "list.append" rAppend := by
  intro pins s σ H x vs v us Q I rx rv h
  obtain ⟨l, xs, y, rfl, rfl, hH, hz, q⟩ := h
  cases rx
  obtain ⟨u, rfl, ru⟩ := rv.one
  obtain ⟨z, its, n, r, hl, e⟩ := I.lstM hH
  refine call_meets F.slot_list_append ⟨_, e, rfl⟩ F.entry_list_append (F.args_list_append_2 _ _) (PySem.list_append l its.toArray n u (by rw [List.size_toArray]; omega)) ⟨e, ?_⟩
  refine ⟨.non, _, I.lset (its' := its ++ [u]) hH e (by simp) (r.append (.cons ru .nil)) ?_, rfl, q⟩
  rw [List.length_append, List.length_singleton]
  omega

/-! ### list + list, list += list, list * int -/
/-- a list times an int (a negative one is nothing) -/
def rRep : R2 := fun x y H Q => ∃ l k xs, x = .ref l ∧ y = .int k ∧ H l = some (.lst xs) ∧ -(2 ^ 63) ≤ k ∧ k < 2 ^ 63 ∧ xs.length * k.toNat ≤ sizeLine ∧
  ∀ p, H p = none → Q (.ref p) (upd H p (.lst (List.replicate k.toNat xs).flatten))
theorem len_rep {α : Type} (xs : List α) (k : Nat) : (List.replicate k xs).flatten.length = k * xs.length := by
  induction k with
  | zero => simp
  | succ k ih => rw [List.replicate_succ, List.flatten_cons, List.length_append, ih, Nat.succ_mul, Nat.add_comm]
theorem op_rep : OpR X (binaryOp .Mult) rRep := by
  intro pins s σ H x y v u Q I rx ry h
  obtain ⟨l, k, xs, rfl, rfl, hH, h1, h2, hz, q⟩ := h
  cases rx
  obtain ⟨t, rfl⟩ := ry
  obtain ⟨z, its, n, r, hl, e⟩ := I.lstM hH
  have hlen : its.toArray.size * k.toNat ≤ sizeLine := by rw [List.size_toArray, ← hl]; exact hz
  have hcap : ¬ its.toArray.size * k.toNat > (2 ^ 63 - 1) / 8 := by
    have : (sizeLine : Nat) ≤ (2 ^ 63 - 1) / 8 := by decide
    omega
  have hfit : ¬ (!Builtin.List.listFitsIndex k) = true := by
    rw [fitsIndex_both h1 h2]
    exact Bool.false_ne_true
  have hlong : ¬ Builtin.List.listTooLong (its.toArray.size * k.toNat) = true := by
    rw [notLongL hlen]
    exact Bool.false_ne_true
  have hnew : List.foldl (fun x1 x2 => x1 ++ x2) #[] (List.replicate (if its.toArray.isEmpty = true then 0 else k.toNat) its.toArray) = (List.replicate k.toNat its).flatten.toArray := by
    have f0 : ∀ m : Nat, List.foldl (fun x1 x2 => x1 ++ x2) #[] (List.replicate m its.toArray) = (List.replicate m its).flatten.toArray := fun m => by
      have := foldl_rep its m []
      rw [List.nil_append] at this
      exact this
    rw [f0]
    cases its with
    | nil => simp
    | cons a r' => rw [if_neg (by simp)]
  refine wpAny_binaryOp_repeat_ref (T := "list") (U := "int") (by decide) ⟨_, e, rfl⟩ (fun s' => typeIs_int s' k t) noFill_list_mul F.fills_int_mul F.slot_int_rmul repeat_list F.slot_int_index.lookup
    (call_meets F.slot_int_rmul (typeIs_int s k t) F.entry_int_rmul (F.args_int_rmul_2 _ _) (int___rmul___int_list k t l its.toArray n)
      ⟨e, rfl, ⟨_, e, rfl⟩, call_meets F.slot_list_mul ⟨_, e, rfl⟩ F.entry_list_mul (F.args_list_mul_2 _ _) (AutoListH.list___mul___list_int_3 l its.toArray n k t hfit hcap hlong) ⟨e, ?_⟩⟩)
  rw [hnew]
  exact ⟨.ref _, _, I.lnew (t' := s.toks) (r.rep k.toNat) (by rw [len_rep, Nat.mul_comm]; exact hz), rfl, q _ I.fresh⟩

/-! ### del xs[i] -/
end

/-! ### xs[a:b] = ys -/
section
variable {prog : Program} {w : World} {A : Around} {E : Value → Shared → Prop} {s : Shared}
end

section
variable {X : Cx}
end
end L2

namespace Att
open PySem PySem.W PySem.Calls PyProof.Rows

/-! ### the script -/
theorem ints_of_wellAll {P : Params} {h : Heap} : ∀ (ns : List Int) (vs : List Value), WellAll P h vs (ns.map WData.int) → IntsAre vs ns := by
  intro ns
  induction ns with
  | nil =>
    intro vs w
    rw [List.map_nil] at w
    cases w
    exact .nil
  | cons n ns ih =>
    intro vs w
    rw [List.map_cons] at w
    cases w with
    | cons a b =>
      cases a
      exact .cons _ _ (ih _ b)

theorem script_of {l : OpenLaw} {n : Nat} (hn : l.most = some n) {P : Params} {h : Heap} {args : List WData} {vals : List Value}
    (hpre : l.row.toRowW.claim.pre args = true) (hwl : WellAll P h vals args) :
    ∃ a vs ns, vals = [Value.ref a] ∧ args = [WData.list (ns.map WData.int)] ∧ h.get? a = some { cls := .type "list", data := .seq vs.toArray } ∧ IntsAre vs ns ∧ ns.length ≤ n := by
  have hsh : WShape.hasAll [] args [.list .int] = true := (pre_splitW hpre).1
  have hc : l.pre.holds [] { args := args } = true := (pre_splitW hpre).2
  obtain ⟨d, r, rfl, h1, h2⟩ := hasAllW_cons hsh
  obtain rfl := hasAllW_nil h2
  obtain ⟨xs, rfl, h3⟩ := hasW_list h1
  obtain ⟨ns, rfl⟩ := items_int h3
  have hlen : ns.length ≤ n := by
    unfold OpenLaw.pre at hc
    have h4 : (WTm.not (.lt (.lit (.int (n : Int))) (.len (.arg 0)))).holds [] { args := [.list (ns.map .int)] } = true := by
      have h4 := (holds_andW hc).1
      rw [hn] at h4
      exact h4
    have h5 := condW_of h4 (w_not (w_lt w_lit (w_len_list (w_arg rfl))))
    rw [List.length_map] at h5
    refine Nat.le_of_not_lt fun q => ?_
    have q' : (n : Int) < ((ns.length : Nat) : Int) := by omega
    first
      | (rw [decide_eq_true q'] at h5; exact absurd h5 (by decide))
      | (simp at h5; omega)
  cases hwl with
  | cons w1 w2 =>
    cases w2
    cases w1 with
    | list ho hall => exact ⟨_, _, ns, rfl, rfl, ho, ints_of_wellAll ns _ hall, hlen⟩

theorem post_true (l : OpenLaw) (args : List WData) : l.row.toRowW.claim.post args (.bool true) args = true :=
  postW_of (r := l.row.toRowW) (X := (true == true))
    (show WShape.has [] (.bool true) .bool = true by first | rfl | decide | simp [WShape.has, WShape.arms, WShape.armsAll])
    (show (WTm.eq .res (.lit (.bool true))).value [] { args := args, res := some (.bool true), after := args } = some (.bool (true == true)) from w_eq_bool (w_res rfl) w_lit) rfl

/-! ### the attachment: holds_open's last premise (the goal 'hc' behind k_head) from a wpAny of the law's body -/
/-- the same from a codeAny of the CALL (for a layer whose function contracts speak of calls) -/
theorem attach_call {l : OpenLaw} {n : Nat} {q : Program} {loose : List Str} {XP : (Str → Option Value) → Heap → Prop} {YP : World → Heap → Prop} {d : DefRec}
    (hn : l.most = some n) (hdf : d.params.defaults = [])
    (call : ∀ (w : World) (s₀ s₁ : Shared) (mg mb : Str → Option Value) (fa : Addr) (o : Obj) (pm cd doc : Value) (a : Addr) (vs : List Value) (ns : List Int),
      Ground q loose [] XP w s₀ mg mb s₁.heap → YP w s₁.heap →
      s₁.heap.get? fa = some o → o.data = .func (docDef d.name d.params d.body d.scope pm cd doc) → s₁.heap.CodeRec cd d.name → mg d.name = some (.ref fa) →
      s₁.heap.get? a = some { cls := .type "list", data := .seq vs.toArray } → IntsAre vs ns → ns.length ≤ n → s₁.gens = #[] →
      codeAny (model l.prog w) callerA (.call (.ref fa) ⟨[.ref a], []⟩) (fun r s' => r = .ok (.ret (.bool true)) ∧ OldK s₁.heap s'.heap ∧ s'.os = s₁.os ∧ AllBare s'.gens) s₁) :
    WalkO q loose XP YP l.row.toRowW d [] (fun f vs => PySem.call f vs) := by
  intro w s₀ s₁ mg mb G Y fa o pm cd doc dV kV ho hd hcd hD hmg hg args vals as hpre hlay hrd hwl hlo
  obtain rfl : dV = .none := Dflts.none hD hdf
  obtain rfl : kV = .none := Dflts.noKw hD
  obtain ⟨a, vs, ns, rfl, rfl, hobj, hints, hlen⟩ := script_of hn hpre hwl
  refine enter_call (codeAny_mono (call w s₀ s₁ mg mb fa o pm cd doc a vs ns G Y ho (fd_plain hd) hcd hmg hobj hints hlen hg) fun r s' hq => ?_)
  obtain ⟨rfl, h2, h3, h4⟩ := hq
  exact ⟨.inl ⟨.bool true, .bool true, [], rfl, fun _ => rfl, .bool true, post_true l _, fun _ => ⟨List.Pairwise.nil, fun _ hm => (nomatch hm)⟩⟩, h2, h3, h4⟩

/-! ### rules over ANY heap (no ledger) from facts about the written part K: the library's own take a ledger (News) for what they write -/
section
variable {prog : Program} {w : World} {A : Around} {E : Value → Shared → Prop} {s : Shared} {K : Frag}

/-! the whole heap as the ledger: makes every rule that writes through a ledger a rule over any heap -/
def ledger (h : Heap) (L d : Addr) : List (Addr × Obj) := (List.range h.objs.size).filterMap fun a => if a = L ∨ a = d then none else (h.get? a).map fun o => (a, o)
end
end Att

namespace L2
open PySem PySem.Spec PyProof.Rows

theorem vals_ints : ∀ {vs : List Value} {ns : List Int}, IntsAre vs ns → Vals (ns.map V.int) vs
  | _, _, .nil => .nil
  | _, _, .cons n t h => .cons ⟨t, rfl⟩ (vals_ints h)

/-- nothing is tracked but the script, known to the object (or it is an object of the module) -/
def Only (H : Hp) : Prop := ∀ b, H b = none ∨ ∃ o xs, H b = some (.frz o (.lst xs))

/-- THE HEAD: the law's promise, at the heap behind the top. F, the promise of the law's def, may use that base is part of the heap (so K.In base, base.Ns mainGlobals mg stand in Mod) -/
theorem law_call {P : Program} {w : World} {K : PySem.W.Frag} {mg mb : Str → Option Value} {CX : CXT} {k : Nat} {fa a : Addr} {fd : FuncData} {x : Str} {sp : Sp} {s₁ : Shared} {vs : List Value} {ns : List Int}
    (KX : K.In s₁.heap) (hns : s₁.heap.Ns mainGlobals mg) (hb : s₁.heap.Ns builtinsNs mb) (hbb : ∀ x : Str, x ≠ "__name__" → mb x = bootBuiltins x) (hlim : s₁.heap.NoLimit) (hg : s₁.gens = #[])
    (ha : s₁.heap.get? a = some { cls := .type "list", data := .seq vs.toArray }) (hi : IntsAre vs ns) (hl : ns.length ≤ sizeLine) (hr : Room k callerA)
    (F : ∀ base : Heap, K.In base → base.Ns mainGlobals mg → FnOk P w K mg base CX k fa fd [x] sp) (hbind : ∀ (s : Shared) (u : Value), BindsTo s fd ⟨[u], []⟩ [(x, u)])
    (hsp : ∀ H : Hp, Only H → SqL K H a (ns.map V.int) → sp [.ref a] H (fun v _ => v = .bl true) fun _ _ _ => False)
    (hCX : ∀ H e s', CX [] H s₁ (fun _ _ _ => False) e s' → False) :
    codeAny (model P w) callerA (.call (.ref fa) ⟨[.ref a], []⟩) (fun r s' => r = .ok (.ret (.bool true)) ∧ OldK s₁.heap s'.heap ∧ s'.os = s₁.os ∧ AllBare s'.gens) s₁ := by
  have rv := vals_ints hi
  have lenV := hi.length
  -- from an abstract heap in which nothing but the script may be tracked
  have core : ∀ H : Hp, Only H → SqL K H a (ns.map V.int) → HOk P w H s₁.heap → (∀ b, H b ≠ none → b = a) → (H a ≠ none → K.lookup a = none) →
      codeAny (model P w) callerA (.call (.ref fa) ⟨[.ref a], []⟩) (fun r s' => r = .ok (.ret (.bool true)) ∧ OldK s₁.heap s'.heap ∧ s'.os = s₁.os ∧ AllBare s'.gens) s₁ := by
    intro H hO hS hok hA hK
    have base_of : ∀ {b : Addr} {o : Obj}, s₁.heap.get? b = some o → H b = none → (hidT s₁.heap H).get? b = some o := fun e n => hidT_get e n
    have noA : ∀ {b : Addr} {o : Obj} {es : Array DictEntry} {ep : Nat}, s₁.heap.get? b = some o → o.data = .dict es ep → H b = none := fun {b o es ep} e d => by
      cases q : H b with
      | none => rfl
      | some u =>
        have e' : b = a := hA b (by rw [q]; simp)
        subst e'
        rw [ha] at e; cases e
        have d' : Data.seq vs.toArray _ = Data.dict es ep := d
        cases d'
    have nsK : ∀ {b : Addr} {m : Str → Option Value}, s₁.heap.Ns b m → (hidT s₁.heap H).Ns b m := fun {b m} ⟨o, es, ep, e, d, r⟩ => ⟨o, es, ep, base_of e (noA e d), d, r⟩
    have hKb : K.In (hidT s₁.heap H) := fun b o e => base_of (KX b o e) (by
      cases q : H b with
      | none => rfl
      | some u =>
        have e' : b = a := hA b (by rw [q]; simp)
        subst e'
        rw [hK (by rw [q]; simp)] at e; cases e)
    have hM : Mod K mg (hidT s₁.heap H) := ⟨hKb, nsK hns, ⟨mb, nsK hb, hbb⟩, let ⟨mc, h1, h2⟩ := hlim; ⟨mc, nsK h1, h2⟩⟩
    have e0 : Env0 P w K mg (hidT s₁.heap H) callerA [] s₁ H := ⟨rfl, hM, fun b o e => of_hidT e, Nat.le_of_eq (hidT_size _ _), trivial, fun b hb => absurd (show b ∈ ([] : List Addr) from hb) (by simp), hok, .of_eq hg⟩
    refine codeAny_mono ((F _ hKb (nsK hns)).run callerA [] s₁ H ⟨[.ref a], []⟩ [.ref a] [.ref a] _ _ hr e0 (hbind s₁ (.ref a)) (.cons rfl .nil) (hsp H hO hS)) fun r s' h => ?_
    cases r with
    | error e => exact (hCX H e s' h).elim
    | ok fl =>
      cases fl with
      | next => exact False.elim h
      | brk => exact False.elim h
      | cont => exact False.elim h
      | ret u =>
        obtain ⟨v, H', os, bare, un, hok', r', q⟩ := h
        have q' : v = .bl true := q
        subst q'
        obtain rfl : u = Value.bool true := r'
        refine ⟨rfl, OldK.of_keep fun b o e => ?_, os, bare⟩
        cases q : H b with
        | none => exact un.keep b o e q (by intro z; exact absurd (show b ∈ ([] : List Addr) from z) (by simp)) (by simp)
        | some u =>
          rcases hO b with z | ⟨ob, xs, z⟩
          · rw [q] at z; cases z
          · have z2 := un.frzs b ob _ z
            obtain ⟨e1, _⟩ := hok b _ z
            obtain ⟨e2, _⟩ := hok' b _ z2
            rw [e] at e1; cases e1
            exact e2
  cases hk : K.lookup a with
  | some o =>
    -- the script is one of the module's own objects
    have e := KX a o hk
    rw [ha] at e
    cases e
    refine core (fun _ => none) (fun _ => .inl rfl) (.inr ⟨_, vs.toArray, _, hk, rfl, rfl, rfl, by rw [List.size_toArray, lenV]; exact hl, by simpa using rv⟩) (fun b u z => by have z' : (none : Option HO) = some u := z; cases z') (fun b z => absurd rfl z) fun z => absurd rfl z
  | none =>
    refine core (fun b => if b = a then some (.frz { cls := .type "list", data := .seq vs.toArray } (.lst (ns.map V.int))) else none) (fun b => ?_) (.inl (.inr ⟨{ cls := .type "list", data := .seq vs.toArray }, if_pos rfl⟩)) (fun b u z => ?_) (fun b z => ?_) fun _ => hk
    · by_cases hb : b = a
      · exact .inr ⟨_, _, if_pos hb⟩
      · exact .inl (if_neg hb)
    · by_cases hb : b = a
      · have z' := (if_pos hb).symm.trans z
        cases z'
        subst hb
        exact ⟨ha, by rw [List.length_map]; exact hl, vs, _, rv, ha⟩
      · have z' := (if_neg hb).symm.trans z
        cases z'
    · by_cases hb : b = a
      · exact hb
      · exact absurd (if_neg hb) z
end L2

namespace L2
open PySem PySem.Spec PyProof.Rows

abbrev KOf {K : PySem.W.Frag} {h : Heap} (_ : K.In h) : PySem.W.Frag := K

/-- the goal that k_head leaves (case hc), from the law's promise. F gives the function object fd (K's own) once, then the promise over every base -/
theorem walk_of {l : PySem.W.OpenLaw} {n k : Nat} {q : Program} {loose : List Str} {XP : (Str → Option Value) → Heap → Prop} {YP : World → Heap → Prop} {d : DefRec} {K : Params → PySem.W.Frag} {CX : World → CXT} {sp : World → Sp} {x : Str}
    (hn : l.most = some n) (hn2 : n ≤ sizeLine) (hdf : d.params.defaults = []) (hr : Room k callerA)
    (hY : ∀ (w : World) (h : Heap), YP w h → (K w.params).In h)
    (F : ∀ (w : World) (mg : Str → Option Value) (fa : Addr) (h : Heap), (K w.params).In h → h.Ns mainGlobals mg → mg d.name = some (.ref fa) →
      ∃ fd : FuncData, (∀ (s : Shared) (u : Value), BindsTo s fd ⟨[u], []⟩ [(x, u)]) ∧
        ∀ base : Heap, (K w.params).In base → base.Ns mainGlobals mg → FnOk l.prog w (K w.params) mg base (CX w) k fa fd [x] (sp w))
    (hsp : ∀ (w : World) (H : Hp) (a : Addr) (ns : List Int), ns.length ≤ n → Only H → SqL (K w.params) H a (ns.map V.int) → sp w [.ref a] H (fun v _ => v = .bl true) fun _ _ _ => False)
    (hCX : ∀ (w : World) (H : Hp) (s : Shared) (e : Value) (s' : Shared), CX w [] H s (fun _ _ _ => False) e s' → False) :
    PySem.W.WalkO q loose XP YP l.row.toRowW d [] (fun f vs => PySem.call f vs) := by
  refine Att.attach_call hn hdf fun w s₀ s₁ mg mb fa o pm cd doc a vs ns G Y ho hd hcd hmg hobj hints hlen hg => ?_
  have KX := hY w _ Y
  obtain ⟨fd, hb, hF⟩ := F w mg fa _ KX G.T.g hmg
  exact law_call KX G.T.g G.T.b G.T.builtins G.T.nolimit hg hobj hints (Nat.le_trans hlen hn2) hr hF hb (fun H hO hS => hsp w H a ns hlen hO hS) fun H e s' => hCX w H s₁ e s'
/-- the same where the promise hangs on the written part alone: (sp := My.sp_law), no hole under a binder -/
theorem walk_ofK {l : PySem.W.OpenLaw} {n k : Nat} {q : Program} {loose : List Str} {XP : (Str → Option Value) → Heap → Prop} {YP : World → Heap → Prop} {d : DefRec} {K : Params → PySem.W.Frag} {CX : CXT} {sp : PySem.W.Frag → Sp} {x : Str}
    (hn : l.most = some n) (hn2 : n ≤ sizeLine) (hdf : d.params.defaults = []) (hr : Room k callerA)
    (hY : ∀ (w : World) (h : Heap), YP w h → (K w.params).In h)
    (F : ∀ (w : World) (mg : Str → Option Value) (fa : Addr) (h : Heap), (K w.params).In h → h.Ns mainGlobals mg → mg d.name = some (.ref fa) →
      ∃ fd : FuncData, (∀ (s : Shared) (u : Value), BindsTo s fd ⟨[u], []⟩ [(x, u)]) ∧
        ∀ base : Heap, (K w.params).In base → base.Ns mainGlobals mg → FnOk l.prog w (K w.params) mg base CX k fa fd [x] (sp (K w.params)))
    (hsp : ∀ (K : PySem.W.Frag) (H : Hp) (a : Addr) (ns : List Int), ns.length ≤ n → Only H → SqL K H a (ns.map V.int) → sp K [.ref a] H (fun v _ => v = .bl true) fun _ _ _ => False)
    (hCX : ∀ (H : Hp) (s : Shared) (e : Value) (s' : Shared), CX [] H s (fun _ _ _ => False) e s' → False) :
    PySem.W.WalkO q loose XP YP l.row.toRowW d [] (fun f vs => PySem.call f vs) :=
  walk_of (K := K) (CX := fun _ => CX) (sp := fun w => sp (K w.params)) hn hn2 hdf hr hY F (fun w H a ns h1 h2 h3 => hsp (K w.params) H a ns h1 h2 h3) fun _ H s e s' => hCX H s e s'
end L2

/- THE LAST THEOREM (shape; LID, My.* are yours):
   My.Adr: a structure of the addresses that your layer names (classes, functions); My.Txt K t: a structure (Prop) of the equations over K;
   My.txt_mk : {K} {implicit addresses ..} (e1 : nsIn K mainGlobals "law" = some (some (.ref f))) (e2 : K.lookup f = some ⟨oc, od, .func (fnOf "law" "law" params body scope dV kV doc pm an cdv ct), sl⟩) (e3 : codeIn K cdv "law" = true) .. : ∃ t, My.Txt K t

set_option maxRecDepth 100000 in
set_option maxHeartbeats 0 in
theorem PySem.Challenge.cw_LID_holds : PySem.Challenge.rw_LID.Holds := by
  w_on; o_law; k_head; (case hw => w_witness2)
  k_fill
  refine L2.walk_of (l := PySem.Challenge.rw_LID) (n := 63) (k := 40) (x := "script") (CX := fun w => ..) (sp := fun _ => My.sp_law) rfl (by decide) rfl ⟨rfl, by decide, by decide⟩ (fun w h Y => PySem.W.kIn_of Y) ?F ?S ?C
  case F =>
    intro w mg fa h KX G hmg
    have T : ∃ t, My.Txt (L2.KOf KX) t := by
      dsimp only [L2.KOf]                          -- K must stand as «<heap const> w.params» for k_is
      refine' My.txt_mk ?e1 ?e2 ?e3 ..
      (case e1 => PySem.W.k_is)                    -- in the order: a name -> its address -> its object -> its parts
      (case e2 => PySem.W.k_is)
      ..
    obtain ⟨t, T⟩ := T
    have e0 := hmg.symm.trans (PySem.W.mg_of KX G T.law)
    cases e0                                       -- fa is the law's own address
    exact ⟨_, fun s u => .of_eq rfl, fun base kb nb => My.law_fn T kb nb⟩     -- if «.of_eq rfl» comes too early: refine' ⟨_, ?b, fun base kb nb => My.law_fn T kb nb⟩; exact fun s u => .of_eq rfl
  case S => exact fun w H a ns hl hO hS => ..
  case C => exact ..
(the tactic k_is has no namespace: write k_is) -/

/-! SHORT WORDS over the layer: a def of the text, its body, what a loop and a test want. -/
namespace L2
open PySem PySem.Spec PyProof.Rows

/-! ### the text by places -/
/-- the j-th statement of a class's body -/
def inClass (s : Stmt) (j : Nat) : Stmt := match s with
  | .ClassDef _ _ _ body _ _ _ _ _ _ _ => body.getD j (.Pass ⟨0, 0, 0, 0⟩)
  | _ => .Pass ⟨0, 0, 0, 0⟩
def defArgs (s : Stmt) : Arguments := match s with
  | .FunctionDef _ a _ _ _ _ _ _ _ _ => a
  | _ => { posonlyargs := [], args := [], vararg := none, kwonlyargs := [], kw_defaults := [], kwarg := none, defaults := [] }
def defBody (s : Stmt) : List Stmt := match s with
  | .FunctionDef _ _ b _ _ _ _ _ _ _ => b
  | _ => []
def defScope (s : Stmt) : Scope := match s with
  | .FunctionDef _ _ _ _ _ _ sc _ _ _ => sc
  | _ => { kind := .function, names := [], isGenerator := false, isCoroutine := false }

/-! ### no exception leaves a def -/
abbrev CX0 : CXT := fun _ _ _ _ _ _ => False
abbrev E0 : XK := fun _ _ _ => False
theorem pass0 {X : Cx} : Passes CX0 X E0 := fun _ _ _ _ _ _ _ h => h.elim

/-! ### a def (or method) of the text as it stands behind the top -/
structure Fun (K : PySem.W.Frag) (x qual : Str) (st : Stmt) (f : Addr) (fd : FuncData) : Prop where
  ex : ∃ (oc : Value) (od : Option Addr) (kV doc pm : Value) (an : Option Addr) (cdv ct : Value) (osl : Array (Option Value)),
    fd = PySem.W.fnOf x qual (defArgs st) (defBody st) (defScope st) .none kV doc pm an cdv ct ∧ K.lookup f = some ⟨oc, od, .func fd, osl⟩ ∧ PySem.W.codeIn K cdv qual = true
  kp : PySem.W.keepIn K (.ref f) = true
section
variable {P : Program} {w : World} {K : PySem.W.Frag} {mg : Str → Option Value} {base : Heap}
/-- THE RULE for a def: its body as a term of rules, and the reading of that term -/
theorem Fun.ok {x qual : Str} {st : Stmt} {f : Addr} {fd : FuncData} {N ps : List Str} {k : Nat} {sp : Sp} (F : Fun K x qual st f fd) (S : FnScope N ps (defScope st)) (len : ∀ vs H Q E, sp vs H Q E → vs.length = ps.length)
    (hbody : ∀ (cdv : Value) (A : Around) (outer : List Env) (s : Shared) (H : Hp) (vs : List V) (Q : VK) (E : XK), Room k (A.deeper (envOfC qual (defScope st) s.heap.objs.size f cdv)) → sp vs H Q E →
      ∃ t, PSs (cxOf CX0 P w K mg base N qual (defScope st) f cdv A outer s H E).nox (defBody st) t ∧ t { nx := fun _ H' => Q .non H', rt := Q } (start N vs) H) : FnOk P w K mg base CX0 (k + 1) f fd ps sp := by
  obtain ⟨oc, od, kV, doc, pm, an, cdv, ct, osl, rfl, lk, hcd⟩ := F.ex
  refine fn_of lk hcd S len fun A outer s H vs Q E hr hsp => ?_
  obtain ⟨t, h, q⟩ := hbody cdv A outer s H vs Q E hr hsp
  exact ⟨t, h.nox, q⟩
/-- how its arguments bind (no defaults): h is «fun _ _ _ _ _ _ us hl => match us, hl with | [_, _], _ => rfl», one _ a parameter -/
theorem Fun.binds {x qual : Str} {st : Stmt} {f : Addr} {fd : FuncData} {ps : List Str} (F : Fun K x qual st f fd)
    (h : ∀ (kV doc pm : Value) (an : Option Addr) (cdv ct : Value) (us : List Value), us.length = ps.length → bindArgs (PySem.W.fnOf x qual (defArgs st) (defBody st) (defScope st) .none kV doc pm an cdv ct) ⟨us, []⟩ = pure (ps.zip us)) : Binds K fd ps [] := by
  obtain ⟨oc, od, kV, doc, pm, an, cdv, ct, osl, rfl, lk, hcd⟩ := F.ex
  exact .all (h kV doc pm an cdv ct)
theorem fun_mk {x qual : Str} {st : Stmt} {f : Addr} {oc : Value} {od an : Option Addr} {osl : Array (Option Value)} {kV doc pm cdv ct : Value} (l : K.lookup f = some ⟨oc, od, .func (PySem.W.fnOf x qual (defArgs st) (defBody st) (defScope st) .none kV doc pm an cdv ct), osl⟩)
    (c : PySem.W.codeIn K cdv qual = true) (k : PySem.W.keepIn K (.ref f) = true) : Fun K x qual st f (PySem.W.fnOf x qual (defArgs st) (defBody st) (defScope st) .none kV doc pm an cdv ct) := ⟨⟨oc, od, kV, doc, pm, an, cdv, ct, osl, rfl, l, c⟩, k⟩
end
theorem hu_of {A : Around} {k : Nat} (hr : Room k A) : A.units + 1 < cLine := Nat.lt_of_le_of_lt (Nat.add_le_add_left (by decide : 1 ≤ 64) _) hr.units
theorem small1000 {n : Nat} (h : n ≤ 1000) : n < sizeLine := Nat.lt_of_le_of_lt h (by decide)

/-! ### expressions in short: the name that stands in the i-th slot -/
section
variable {X : Cx}
theorem pv (i : Nat) {x : Str} {pos : Pos} (hN : X.N[i]? = some x := by rfl) (hv : Vis X.env.scope x := by first | exact Or.inl rfl | exact Or.inr (Or.inl rfl) | exact Or.inr (Or.inr rfl)) (hd : (x == ("__debug__" : Str)) = false := by decide)
    (hcd : (x == ("__classdict__" : Str)) = false := by decide) : PE X (.Name x pos) (tVar i) := pe_var hN hv hd hcd
end

/-! ### tests -/
theorem iteF {A B : Prop} (h : B) : if false = true then A else B := by
  rw [if_neg Bool.false_ne_true]
  exact h
theorem iteT {A B : Prop} (h : A) : if true = true then A else B := by
  rw [if_pos rfl]
  exact h
theorem ite2 {c A B : Prop} [Decidable c] (h1 : c → A) (h2 : ¬ c → B) : if c then A else B := by
  by_cases h : c
  · rw [if_pos h]
    exact h1 h
  · rw [if_neg h]
    exact h2 h
/-! ### heaps -/
/-- all that was tracked is as it was -/
def Same (H H' : Hp) : Prop := ∀ b o, H b = some o → H' b = some o
theorem Same.refl (H : Hp) : Same H H := fun _ _ h => h
theorem Same.trans {H H1 H2 : Hp} (a : Same H H1) (b : Same H1 H2) : Same H H2 := fun c o h => b c o (a c o h)
theorem Same.free {H H' : Hp} (e : Same H H') {l : Addr} (h : H' l = Option.none) : H l = Option.none := by
  cases q : H l with
  | none => rfl
  | some o =>
    rw [e l o q] at h
    cases h
theorem Same.seq {K : PySem.W.Frag} {H H' : Hp} {a : Addr} {xs : List V} (e : Same H H') (h : SqL K H a xs) : SqL K H' a xs := by
  rcases h with (h | ⟨o, h⟩) | h
  · exact .inl (.inl (e _ _ h))
  · exact .inl (.inr ⟨o, e _ _ h⟩)
  · exact .inr h

end L2

namespace L2
open PySem PySem.Spec PyProof.Rows

/-! ### lists of pairs as tables -/
section
variable {κ : Type} [DecidableEq κ]
def valV (kvs : List (κ × V)) (k : κ) : Option V := (kvs.find? fun kv => decide (kv.1 = k)).map (·.2)
/-- in its place, or at the end -/
def putK (kvs : List (κ × V)) (k : κ) (v : V) : List (κ × V) :=
  if (kvs.any fun kv => decide (kv.1 = k)) = true then kvs.map (fun kv => if kv.1 = k then (kv.1, v) else kv) else kvs ++ [(k, v)]
def dropK (kvs : List (κ × V)) (k : κ) : List (κ × V) := kvs.filter fun kv => decide (kv.1 ≠ k)

theorem valV_pos {p : κ × V} {r : List (κ × V)} {k : κ} (e : p.1 = k) : valV (p :: r) k = some p.2 := by simp [valV, List.find?_cons, e]
theorem valV_neg {p : κ × V} {r : List (κ × V)} {k : κ} (e : ¬ p.1 = k) : valV (p :: r) k = valV r k := by simp [valV, List.find?_cons, e]
theorem valV_any (k : κ) : ∀ kvs : List (κ × V), (kvs.any fun kv => decide (kv.1 = k)) = (valV kvs k).isSome
  | [] => rfl
  | p :: r => by
    rw [List.any_cons]
    by_cases e : p.1 = k
    · simp only [valV_pos e, decide_eq_true e, Bool.true_or, Option.isSome_some]
    · rw [valV_neg e, decide_eq_false e, Bool.false_or]; exact valV_any k r
theorem length_putK (kvs : List (κ × V)) (k : κ) (v : V) : (putK kvs k v).length ≤ kvs.length + 1 := by
  unfold putK
  split
  · rw [List.length_map]; omega
  · rw [List.length_append, List.length_cons, List.length_nil]; omega
theorem putK_new {kvs : List (κ × V)} {k : κ} (v : V) (h : valV kvs k = none) : putK kvs k v = kvs ++ [(k, v)] := by
  unfold putK
  rw [valV_any, h]
  exact if_neg (by decide)

theorem RelO.isSome_eq {o : Option V} {u : Option Value} (r : RelO o u) : o.isSome = u.isSome := by
  cases o with
  | none => cases u with
    | none => rfl
    | some _ => exact (show False from r).elim
  | some _ => cases u with
    | none => exact (show False from r).elim
    | some _ => rfl
theorem RelO.getD {o : Option V} {u : Option Value} {d : V} {d' : Value} (r : RelO o u) (rd : RelV d d') : RelV (o.getD d) (u.getD d') := by
  cases o with
  | none => cases u with
    | none => exact rd
    | some _ => exact (show False from r).elim
  | some _ => cases u with
    | none => exact (show False from r).elim
    | some _ => exact r

/-- raw tables of the same keys -/
theorem KV.val {kvs : List (κ × V)} {vs : List (κ × Value)} (r : KV kvs vs) (k : κ) : RelO (valV kvs k) (valueAt vs k) := by
  unfold KV at r
  induction r with
  | nil => exact True.intro
  | @cons p q ps qs h t ih =>
    obtain ⟨h1, h2⟩ := h
    by_cases e : p.1 = k
    · have e' : q.1 = k := h1.symm.trans e
      have b : valueAt (q :: qs) k = some q.2 := by simp [valueAt, List.find?_cons, e']
      rw [valV_pos e, b]; exact h2
    · have e' : ¬ q.1 = k := fun z => e (h1.trans z)
      have b : valueAt (q :: qs) k = valueAt qs k := by simp [valueAt, List.find?_cons, e']
      rw [valV_neg e, b]; exact ih
theorem KV.any {kvs : List (κ × V)} {vs : List (κ × Value)} (r : KV kvs vs) (k : κ) : (kvs.any fun kv => decide (kv.1 = k)) = vs.any fun kv => decide (kv.1 = k) := by
  unfold KV at r
  induction r with
  | nil => rfl
  | cons h t ih => rw [List.any_cons, List.any_cons, ih, h.1]
theorem KV.repl {kvs : List (κ × V)} {vs : List (κ × Value)} (r : KV kvs vs) (k : κ) {y : V} {u : Value} (ry : RelV y u) :
    KV (kvs.map fun kv => if kv.1 = k then (kv.1, y) else kv) (vs.map fun kv => if kv.1 = k then (kv.1, u) else kv) := by
  unfold KV at r ⊢
  induction r with
  | nil => exact .nil
  | @cons p q ps qs h t ih =>
    rw [List.map_cons, List.map_cons]
    refine .cons ?_ ih
    obtain ⟨h1, h2⟩ := h
    by_cases e : p.1 = k
    · rw [if_pos e, if_pos (h1.symm.trans e)]; exact ⟨h1, ry⟩
    · rw [if_neg e, if_neg (fun z => e (h1.trans z))]; exact ⟨h1, h2⟩
theorem KV.put {kvs : List (κ × V)} {vs : List (κ × Value)} (r : KV kvs vs) (k : κ) {y : V} {u : Value} (ry : RelV y u) : KV (putK kvs k y) (stored vs k u) := by
  unfold putK stored
  rw [r.any k]
  by_cases e : (vs.any fun kv => decide (kv.1 = k)) = true
  · rw [if_pos e, if_pos e]; exact r.repl k ry
  · rw [if_neg e, if_neg e]; exact Paired.snoc r ⟨rfl, ry⟩
theorem KV.drop {kvs : List (κ × V)} {vs : List (κ × Value)} (r : KV kvs vs) (k : κ) : KV (dropK kvs k) (without vs k) := by
  unfold KV at r ⊢
  unfold dropK without
  induction r with
  | nil => exact .nil
  | @cons p q ps qs h t ih =>
    obtain ⟨h1, h2⟩ := h
    rw [List.filter_cons, List.filter_cons]
    by_cases e : p.1 = k
    · have a : ¬ decide (p.1 ≠ k) = true := by simp [e]
      have b : ¬ decide (q.1 ≠ k) = true := by simp [h1.symm.trans e]
      rw [if_neg a, if_neg b]; exact ih
    · have e' : ¬ q.1 = k := fun z => e (h1.trans z)
      have a : decide (p.1 ≠ k) = true := by simp [e]
      have b : decide (q.1 ≠ k) = true := by simp [e']
      rw [if_pos a, if_pos b]; exact .cons ⟨h1, h2⟩ ih
theorem KV.keys {kvs : List (κ × V)} {vs : List (κ × Value)} (r : KV kvs vs) : kvs.map (·.1) = vs.map (·.1) := by
  unfold KV at r
  induction r with
  | nil => rfl
  | cons h t ih => rw [List.map_cons, List.map_cons, ih, h.1]
theorem KV.length {kvs : List (κ × V)} {vs : List (κ × Value)} (r : KV kvs vs) : kvs.length = vs.length := Paired.length r
end


/-! ### a tracked dict, its keys ints and texts or tuples of these -/
theorem kV_is {P : Program} {w : World} {k : Key} {u : Value} (r : RelV (kV k) u) : (mixKind P w).is k u = true := by
  cases k with
  | inl i => obtain ⟨t, e⟩ := (show ∃ t, u = Value.int i t from r); subst e; exact mixKind_int P w i t
  | inr x => obtain ⟨t, e⟩ := (show ∃ t, u = Value.str x t from r); subst e; exact mixKind_str P w x t
theorem items_are {P : Program} {w : World} : ∀ {ks : List Key} {us : List Value}, Vals (ks.map kV) us → ItemsAre (mixKind P w) ks us
  | [], _, r => by rw [List.map_nil] at r; cases r; exact .nil
  | k :: ks, _, r => by
    rw [List.map_cons] at r
    cases r with
    | cons h t => exact .cons (kV_is h) (items_are t)

/-- raw entries of a dict with tuple keys -/
abbrev KT (H : Hp) : List (List Key × V) → List (List Key × Addr × Value) → Prop := Paired fun p q => p.1 = q.1 ∧ H q.2.1 = some (.tup (p.1.map kV)) ∧ RelV p.2 q.2.2
theorem KT.val {H : Hp} {kvs : List (List Key × V)} {xs : List (List Key × Addr × Value)} (r : KT H kvs xs) (k : List Key) : RelO (valV kvs k) ((atKey xs k).map (·.2)) := by
  induction r with
  | nil => exact True.intro
  | @cons p q ps qs h t ih =>
    obtain ⟨h1, _, h2⟩ := h
    by_cases e : p.1 = k
    · have e' : q.1 = k := h1.symm.trans e
      have b : atKey (q :: qs) k = some q.2 := by simp [atKey, List.find?_cons, e']
      rw [valV_pos e, b]; exact h2
    · have e' : ¬ q.1 = k := fun z => e (h1.trans z)
      have b : atKey (q :: qs) k = atKey qs k := by simp [atKey, List.find?_cons, e']
      rw [valV_neg e, b]; exact ih
theorem KT.repl {H : Hp} {kvs : List (List Key × V)} {xs : List (List Key × Addr × Value)} (r : KT H kvs xs) (k : List Key) {y : V} {u : Value} (ry : RelV y u) :
    KT H (kvs.map fun kv => if kv.1 = k then (kv.1, y) else kv) (xs.map (putAt k u)) := by
  induction r with
  | nil => exact .nil
  | @cons p q ps qs h t ih =>
    rw [List.map_cons, List.map_cons]
    refine .cons ?_ ih
    obtain ⟨h1, h2, h3⟩ := h
    unfold putAt
    by_cases e : p.1 = k
    · rw [if_pos e, if_pos (h1.symm.trans e)]; exact ⟨h1, h2, ry⟩
    · rw [if_neg e, if_neg (fun z => e (h1.trans z))]; exact ⟨h1, h2, h3⟩
theorem KT.put {H : Hp} {kvs : List (List Key × V)} {xs : List (List Key × Addr × Value)} (r : KT H kvs xs) (k : List Key) {b : Addr} {y : V} {u : Value} (hb : H b = some (.tup (k.map kV))) (ry : RelV y u) :
    KT H (putK kvs k y) (storedH xs k b u) := by
  have e : (kvs.any fun kv => decide (kv.1 = k)) = (atKey xs k).isSome := by
    rw [valV_any, (r.val k).isSome_eq, Option.isSome_map]
  unfold putK storedH
  rw [e]
  by_cases q : (atKey xs k).isSome = true
  · rw [if_pos q, if_pos q]; exact r.repl k ry
  · rw [if_neg q, if_neg q]; exact Paired.snoc r ⟨rfl, hb, ry⟩
theorem KT.keeps {H H' : Hp} {kvs : List (List Key × V)} {xs : List (List Key × Addr × Value)} (r : KT H kvs xs) (ht : ∀ b ys, H b = some (.tup ys) → H' b = some (.tup ys)) : KT H' kvs xs :=
  Paired.mapP r fun _ _ z => ⟨z.1, ht _ _ z.2.1, z.2.2⟩

section
variable {P : Program} {w : World} {H : Hp} {h : Heap} {a : Addr}
theorem rd_of {u : HO} (ok : HOk P w H h) (e : Rd H a u) : ObjOk P w H h a u := e.ok ok
theorem dk_rd {kvs : List (Key × V)} (ok : HOk P w H h) (e : Rd H a (.dK kvs)) : kvs.length ≤ sizeLine ∧ (a == sysModules) = false ∧ ∃ vs, KV kvs vs ∧ h.DictOf (mixKind P w) a vs :=
  show ObjOk P w H h a (.dK kvs) from rd_of ok e
theorem dk_of {kvs : List (Key × V)} (ok : HOk P w H h) (e : H a = some (.dK kvs)) : kvs.length ≤ sizeLine ∧ (a == sysModules) = false ∧ ∃ vs, KV kvs vs ∧ h.DictOf (mixKind P w) a vs := dk_rd ok (.inl e)
/-- a tracked tuple of ints and texts is a key -/
theorem key_of {ks : List Key} (ok : HOk P w H h) (e : H a = some (.tup (ks.map kV))) : (tupleKind (mixKind P w)).is h ks a := by
  obtain ⟨_, its, r, o, h1, h2, n, h3⟩ := (show ObjOk P w H h a (.tup (ks.map kV)) from ok a _ e)
  exact ⟨o, its.toArray, n, h1, h2, h3, by simpa using items_are r⟩
theorem dt_rd {kvs : List (List Key × V)} (ok : HOk P w H h) (e : Rd H a (.dT kvs)) : kvs.length ≤ sizeLine ∧ (a == sysModules) = false ∧
    ∃ xs, KT H kvs xs ∧ h.DictOfH (tupleKind (mixKind P w)) a xs := by
  obtain ⟨z, y, xs, r, o, es, ep, h1, h2, h3, h4, h5⟩ := (show ObjOk P w H h a (.dT kvs) from rd_of ok e)
  refine ⟨z, y, xs, r, o, es, ep, h1, h2, h3, h4, fun x hx => ?_, h5⟩
  have all : ∀ {l : List (List Key × V)} {m : List (List Key × Addr × Value)}, KT H l m → ∀ x ∈ m, (tupleKind (mixKind P w)).is h x.1 x.2.1 := by
    intro l m q
    induction q with
    | nil => intro x hx; exact nomatch hx
    | @cons p q ps qs hq t ih =>
      intro x hx
      rcases List.mem_cons.mp hx with e | hx
      · subst e
        exact key_of ok (by rw [← hq.1]; exact hq.2.1)
      · exact ih x hx
  exact all r x hx
theorem dt_of {kvs : List (List Key × V)} (ok : HOk P w H h) (e : H a = some (.dT kvs)) : kvs.length ≤ sizeLine ∧ (a == sysModules) = false ∧
    ∃ xs, KT H kvs xs ∧ h.DictOfH (tupleKind (mixKind P w)) a xs := dt_rd ok (.inl e)
end

/-- what the dict at a holds at the key y -/
def DGet (H : Hp) (a : Addr) (y : V) (r : Option V) : Prop :=
  (∃ kvs k, Rd H a (.dK kvs) ∧ y = kV k ∧ r = valV kvs k) ∨ ∃ kvs k b, Rd H a (.dT kvs) ∧ y = .ref b ∧ H b = some (.tup (k.map kV)) ∧ r = valV kvs k
/-- the heap behind a[y] = v -/
def DPut (H : Hp) (a : Addr) (y v : V) (H' : Hp) : Prop :=
  (∃ kvs k, H a = some (.dK kvs) ∧ y = kV k ∧ kvs.length < sizeLine ∧ H' = upd H a (.dK (putK kvs k v))) ∨
  ∃ kvs k b, H a = some (.dT kvs) ∧ y = .ref b ∧ H b = some (.tup (k.map kV)) ∧ kvs.length < sizeLine ∧ H' = upd H a (.dT (putK kvs k v))
theorem DGet.k {H : Hp} {a : Addr} {kvs : List (Key × V)} {k : Key} (e : H a = some (.dK kvs)) : DGet H a (kV k) (valV kvs k) := .inl ⟨kvs, k, .inl e, rfl, rfl⟩
theorem DGet.t {H : Hp} {a b : Addr} {kvs : List (List Key × V)} {k : List Key} (e : H a = some (.dT kvs)) (eb : H b = some (.tup (k.map kV))) : DGet H a (.ref b) (valV kvs k) := .inr ⟨kvs, k, b, .inl e, rfl, eb, rfl⟩
theorem DPut.k {H : Hp} {a : Addr} {kvs : List (Key × V)} {k : Key} {v : V} (e : H a = some (.dK kvs)) (hl : kvs.length < sizeLine) : DPut H a (kV k) v (upd H a (.dK (putK kvs k v))) := .inl ⟨kvs, k, e, rfl, hl, rfl⟩
theorem DPut.t {H : Hp} {a b : Addr} {kvs : List (List Key × V)} {k : List Key} {v : V} (e : H a = some (.dT kvs)) (eb : H b = some (.tup (k.map kV))) (hl : kvs.length < sizeLine) :
    DPut H a (.ref b) v (upd H a (.dT (putK kvs k v))) := .inr ⟨kvs, k, b, e, rfl, eb, hl, rfl⟩


section
variable {X : Cx} {pins : List (Addr × Obj)} {σ : St} {H : Hp} {s : Shared} {a : Addr} {y v : V} {u r : Value} {o : Option V} {A : Around} {E : Value → Shared → Prop}

theorem Inv.big (I : Inv X pins σ H s) : sysModules < s.heap.objs.size := by
  have h : mainGlobals < s.heap.objs.size := (I.mod.glob.keeps I.bk).lt
  exact Nat.lt_trans (by decide) h

/-- a dict's object is replaced -/
theorem d_write {h' : Heap} {t' : Nat} {ob : HO} (I : Inv X pins σ H s) (mu : Mut (H a)) (hs : Heap.SameBut a s.heap h') (he : ∃ q, h'.get? a = some q) (new : ObjOk X.prog X.w (upd H a ob) h' a ob) :
    Inv X pins σ (upd H a ob) { s with heap := h', toks := t' } :=
  I.write (x := a) (e := a) mu (.inl rfl) (fun b q hb z => (hs.2 b hb).trans z) he new
theorem dk_new {P : Program} {w : World} {H' : Hp} {h' : Heap} {kvs : List (Key × V)} {vs : List (Key × Value)} (z : kvs.length ≤ sizeLine) (hd : (a == sysModules) = false) (rel : KV kvs vs) (dd : h'.DictOf (mixKind P w) a vs) :
    ObjOk P w H' h' a (.dK kvs) := ⟨z, hd, vs, rel, dd⟩
/-- d[y] = v -/
theorem d_setItem {H' : Hp} {Q : Unit → Shared → Prop} (hu : A.units + 1 < cLine) (I : Inv X pins σ H s) (g : DPut H a y v H') (ry : RelV y u) (rv : RelV v r) (h : ∀ s', Inv X pins σ H' s' → Q () s') :
    wpAny (model X.prog X.w) A (setItem (.ref a) u r) Q E s := by
  rcases g with ⟨kvs, k, e, ey, l, eH⟩ | ⟨kvs, k, b, e, ey, eb, l, eH⟩
  · subst ey eH
    obtain ⟨z, hd, vs, rel, dd⟩ := dk_of I.hok e
    have hz : vs.length ≤ sizeLine := by rw [← rel.length]; exact z
    have hl : (putK kvs k v).length ≤ sizeLine := by have := length_putK kvs k v; omega
    refine wpAny_setItem_pairs (hsz := hz) (kV_is ry) dd fun h' dd' hs => h _ ?_
    have he : ∃ q, h'.get? a = some q := let ⟨q, _, _, hq, _⟩ := dd'; ⟨q, hq⟩
    exact d_write I (by rw [e]; exact True.intro) hs he (dk_new hl hd (rel.put k rv) dd')
  · subst ey eH
    cases (show u = Value.ref b from ry)
    obtain ⟨z, hd, xs, rel, dd⟩ := dt_of I.hok e
    have hz : xs.length ≤ sizeLine := by rw [← Paired.length rel]; exact z
    have hl : (putK kvs k v).length ≤ sizeLine := by have := length_putK kvs k v; omega
    refine wpAny_setItem_heap (hsz := hz) (tupleKind_room_in1 hu) (key_of I.hok eb) dd fun h' dd' hs => h _ ?_
    obtain ⟨q, es, ep, hq, h2, h3, h4, _, h5⟩ := dd'
    refine d_write I (by rw [e]; exact True.intro) hs ⟨q, hq⟩ ⟨hl, hd, _, (rel.put k eb rv).keeps fun c ys ec => ?_, q, es, ep, hq, h2, h3, h4, h5⟩
    rw [upd_ne (ne_of ec e (fun z => nomatch z))]
    exact ec
end

section
variable {X : Cx} {pins : List (Addr × Obj)} {σ : St} {H : Hp} {s : Shared} {a : Addr} {kvs : List (Key × V)} {k : Key} {u : Value} {A : Around} {E : Value → Shared → Prop}
end


/-! ### readings and rules -/
/-- d[y] = v -/
def sDPut (td ty tv : TE) : TS := fun D σ H => tv σ H fun v H1 => td σ H1 fun x H2 => ty σ H2 fun y H3 => ∃ a H4, x = .ref a ∧ DPut H3 a y v H4 ∧ D.nx σ H4
section
variable {X : Cx} {o i e value : Expr} {pos pos' tpos : Pos} {td ty tv : TE}
theorem ps_dput (hu : X.A.units + 1 < cLine) (ho : PE X o td) (hi : PE X i ty) (hv : PE X value tv) (hs : swapsWith value (some (.Subscript o i pos')) pos.line X.env = pure false) :
    PS X (.Assign [.Subscript o i pos'] value pos) (sDPut td ty tv) := by
  intro pins s σ H D I h
  refine wpAny_Assign_Subscript (thn (hv pins s σ H _ I h) fun r s1 ⟨v, H1, I1, rv, q1⟩ => thn (ho pins s1 σ H1 _ I1 q1) fun u s2 ⟨x, H2, I2, rx, q2⟩ => thn (hi pins s2 σ H2 _ I2 q2) fun iv s3 ⟨y, H3, I3, ry, a, H4, ex, g, q3⟩ => ?_) hs
  subst ex
  obtain rfl : u = Value.ref a := rx
  exact d_setItem hu I3 g ry rv fun s4 I4 => ⟨σ, H4, I4, q3⟩
end


/-! ### displays -/
theorem dk_empty {P : Program} {w : World} {H : Hp} (h : Heap) (hb : sysModules < h.objs.size) : ObjOk P w H (h.push { cls := .type "dict", data := .dict #[] }) h.objs.size (.dK []) :=
  ⟨Nat.zero_le _, beq_eq_false_iff_ne.mpr (Ne.symm (Nat.ne_of_lt hb)), [], .nil, Heap.DictOf.new h⟩
theorem dt_empty {P : Program} {w : World} {H : Hp} (h : Heap) (hb : sysModules < h.objs.size) : ObjOk P w H (h.push { cls := .type "dict", data := .dict #[] }) h.objs.size (.dT []) :=
  ⟨Nat.zero_le _, beq_eq_false_iff_ne.mpr (Ne.symm (Nat.ne_of_lt hb)), [], .nil, _, #[], 0, Heap.get?_push_size _ rfl, ⟨rfl, rfl, rfl⟩, rfl, rfl, List.nodup_nil⟩
/-- {}, to be a dict of the kind that is wanted -/
def tDNewK : TE := fun _ H Q => ∀ p, H p = none → Q (.ref p) (upd H p (.dK []))
section
variable {X : Cx} {pos : Pos}
theorem pe_dnewK : PE X (.Dict [] [] pos) tDNewK := fun pins s σ H Q I h =>
  wpAny_Dict_empty ⟨.ref s.heap.objs.size, _, I.laid (a := s.heap.objs.size) (o := .dK []) (t' := s.toks) (fun _ _ q => Heap.get?_push_of_some _ q) (Nat.le_refl _) (dk_empty s.heap I.big), rfl, h _ (I.hok.fresh (Nat.le_refl _))⟩
end

/-! ### methods -/
/-- a method call o.m(e) of a built-in, with one argument: what must be seen of the text -/
structure M1 (X : Cx) (o : Expr) (m : Str) (apos : Pos) (e : Expr) (cpos : Pos) : Prop where
  base : attributeBase o m X.env (eval o X.env) = eval o X.env
  few : ((backTo cpos (starEach [e] X.env)).all (fun x => !x.1) && (backToKw cpos (keywordEach [] X.env)).all (fun x => x.1.isSome)
    && decide (([e] : List Expr).length + ([] : List Keyword).length + (if ([] : List Keyword).isEmpty then 0 else 1) < 30)) = true
  line : (apos.endLine == cpos.line) = true
  trees : backTo cpos (starEach [e] X.env) = [(false, eval e X.env)]
structure M2 (X : Cx) (o : Expr) (m : Str) (apos : Pos) (e f : Expr) (cpos : Pos) : Prop where
  base : attributeBase o m X.env (eval o X.env) = eval o X.env
  few : ((backTo cpos (starEach [e, f] X.env)).all (fun x => !x.1) && (backToKw cpos (keywordEach [] X.env)).all (fun x => x.1.isSome)
    && decide (([e, f] : List Expr).length + ([] : List Keyword).length + (if ([] : List Keyword).isEmpty then 0 else 1) < 30)) = true
  line : (apos.endLine == cpos.line) = true
  trees : backTo cpos (starEach [e, f] X.env) = [(false, eval e X.env), (false, eval f X.env)]

/-- a is a dict, whatever its keys -/
def IsD (H : Hp) (a : Addr) : Prop := (∃ kvs, Rd H a (.dK kvs)) ∨ ∃ kvs, Rd H a (.dT kvs)
theorem isD_at {X : Cx} {pins : List (Addr × Obj)} {σ : St} {H : Hp} {s : Shared} {a : Addr} (I : Inv X pins σ H s) (d : IsD H a) :
    s.TypeIs (.ref a) "dict" ∧ (∀ b, Value.ref a = .ref b → ∃ ob, s.heap.get? b = some ob ∧ ob.dict = none) ∧ (a == sysModules) = false := by
  rcases d with ⟨kvs, e⟩ | ⟨kvs, e⟩
  · obtain ⟨_, hd, vs, _, dd⟩ := dk_rd I.hok e
    refine ⟨dd.typeIs, fun b q => ?_, hd⟩
    cases q
    obtain ⟨ob, _, _, h1, h2, _⟩ := dd
    exact ⟨ob, h1, h2.2.1⟩
  · obtain ⟨_, hd, xs, _, dd⟩ := dt_rd I.hok e
    refine ⟨dd.typeIs, fun b q => ?_, hd⟩
    cases q
    obtain ⟨ob, _, _, h1, h2, _⟩ := dd
    exact ⟨ob, h1, h2.2.1⟩

section
variable {X : Cx} {pins : List (Addr × Obj)} {σ : St} {H : Hp} {s : Shared} {a : Addr} {y d : V} {u r : Value} {o : Option V} {A : Around} {E : Value → Shared → Prop}
/-- d.get(y) -/
theorem d_get1 {Q : Value → Shared → Prop} (hu : A.units + 1 < cLine) (I : Inv X pins σ H s) (g : DGet H a y o) (ry : RelV y u) (h : ∀ w' s', Inv X pins σ H s' → RelV (o.getD .non) w' → Q w' s') :
    wpAny (model X.prog X.w) A (call (.builtin "dict.get") [.ref a, u]) Q E s := by
  rcases g with ⟨kvs, k, e, ey, l⟩ | ⟨kvs, k, b, e, ey, eb, l⟩
  · subst ey
    obtain ⟨z, hd, vs, rel, dd⟩ := dk_rd I.hok e
    refine call_meetsIn PySem.F.slot_dict_get dd.typeIs PySem.F.entry_dict_get (PySem.F.args_dict_get_2 _ _) (meets_dict_get (mixKind X.prog X.w) a (kV_is ry) hd) ⟨_, dd.mapOf, h _ _ (I.tok _) ?_⟩
    rw [l]
    exact (rel.val k).getD rfl
  · subst ey
    cases (show u = Value.ref b from ry)
    obtain ⟨z, hd, xs, rel, dd⟩ := dt_rd I.hok e
    refine call_meetsIn PySem.F.slot_dict_get dd.typeIs PySem.F.entry_dict_get (PySem.F.args_dict_get_2 _ _) (meetsH_dict_get (tupleKind (mixKind X.prog X.w)) a b hd) ⟨tupleKind_room_in1 hu, k, xs, key_of I.hok eb, dd, h _ _ (I.tok _) ?_⟩
    rw [l]
    exact (rel.val k).getD rfl
end

def tDGet1 (td ty : TE) : TE := fun σ H Q => td σ H fun x H1 => ∃ a, x = .ref a ∧ IsD H1 a ∧ ty σ H1 fun y H2 => ∃ o, DGet H2 a y o ∧ Q (o.getD .non) H2
section
variable {X : Cx} {o e f : Expr} {apos cpos : Pos} {td ty tx : TE}
theorem pe_dget1 (hu : X.A.units + 1 < cLine) (ho : PE X o td) (he : PE X e ty) (m : M1 X o "get" apos e cpos) : PE X (.Call (.Attribute o "get" apos) [e] [] cpos) (tDGet1 td ty) := by
  intro pins s σ H Q I h
  refine wpAny_Call_method m.base m.few m.line PySem.F.plainAttrs_dict PySem.F.slot_dict_get PySem.F.type_dict_get (thn (ho pins s σ H _ I h) fun u s1 ⟨x, H1, I1, rx, a, ex, d, q1⟩ => ?_)
  subst ex
  obtain rfl : u = Value.ref a := rx
  obtain ⟨t1, t2, _⟩ := isD_at I1 d
  refine ⟨t1, t2, ?_⟩
  rw [m.trees]
  refine Calls.callWith_builtin rfl (Calls.evalArgs_plain (Calls.spliced_cons (thn (he pins s1 σ H1 _ I1 q1) fun iv s2 ⟨y, H2, I2, ry, ov, g, q2⟩ => Calls.spliced_nil ?_)))
  exact d_get1 hu I2 g ry fun w' s3 I3 rw' => ⟨_, H2, I3, rw', q2⟩
end

/-! ### dict(d): a copy -/
section
variable {X : Cx} {pins : List (Addr × Obj)} {σ : St} {H : Hp} {s : Shared} {a : Addr} {kvs : List (Key × V)} {A : Around} {E : Value → Shared → Prop}
end


section
variable {X : Cx} {pins : List (Addr × Obj)} {σ : St} {H : Hp} {s : Shared} {a : Addr} {y : V} {u : Value} {A : Around} {E : Value → Shared → Prop}
end
end L2

namespace Att
open PySem PySem.W PySem.Calls PyProof.Rows

/-! ### the script -/



/-! ### the attachment: holds_open's last premise (the goal 'hc' behind k_head) from a wpAny of the law's body -/



/-! ### rules over ANY heap (no ledger) from facts about the written part K: the library's own take a ledger (News) for what they write -/
section
variable {prog : Program} {w : World} {A : Around} {E : Value → Shared → Prop} {s : Shared} {K : Frag}





/-! the whole heap as the ledger: makes every rule that writes through a ledger a rule over any heap -/

end
end Att

namespace L2
open PySem PySem.Spec PyProof.Rows



end L2

namespace L2
open PySem PySem.Spec PyProof.Rows


end L2

/- THE LAST THEOREM (shape; LID, My.* are yours):
   My.Adr: a structure of the addresses that your layer names (classes, functions); My.Txt K t: a structure (Prop) of the equations over K;
   My.txt_mk : {K} {implicit addresses ..} (e1 : nsIn K mainGlobals "law" = some (some (.ref f))) (e2 : K.lookup f = some ⟨oc, od, .func (fnOf "law" "law" params body scope dV kV doc pm an cdv ct), sl⟩) (e3 : codeIn K cdv "law" = true) .. : ∃ t, My.Txt K t

set_option maxRecDepth 100000 in
set_option maxHeartbeats 0 in
(the tactic k_is has no namespace: write k_is) -/

/-! SHORT WORDS over the layer: a def of the text, its body, what a loop and a test want. -/
namespace L2
open PySem PySem.Spec PyProof.Rows

/-! ### the text by places -/

/-! ### no exception leaves a def -/

/-! ### a def (or method) of the text as it stands behind the top -/
section
variable {P : Program} {w : World} {K : PySem.W.Frag} {mg : Str → Option Value} {base : Heap}
end

/-! ### expressions in short: the name that stands in the i-th slot -/
section
variable {X : Cx}
end

/-! ### tests -/

/-! ### heaps -/

/-! ### a dict's pairs: keys that differ -/
section
variable {κ : Type} [DecidableEq κ]
theorem valV_not {kvs : List (κ × V)} {k : κ} (h : valV kvs k = none) : ¬ k ∈ kvs.map (·.1) := by
  intro m
  obtain ⟨p, hp, e⟩ := List.mem_map.mp m
  have q : (kvs.any fun kv => decide (kv.1 = k)) = true := List.any_eq_true.mpr ⟨p, hp, decide_eq_true e⟩
  rw [valV_any, h] at q
  exact absurd q (by simp)
theorem valV_in {kvs : List (κ × V)} {k : κ} {v : V} (h : valV kvs k = some v) : k ∈ kvs.map (·.1) := by
  have q : (kvs.any fun kv => decide (kv.1 = k)) = true := by
    rw [valV_any, h]
    all_goals rfl
  obtain ⟨p, hp, e⟩ := List.any_eq_true.mp q
  exact List.mem_map.mpr ⟨p, hp, of_decide_eq_true e⟩
end
end L2

/-! OWN RULES over the layer: comprehensions -/
namespace L2
open PySem PySem.Spec PyProof.Rows

/-- the cells that a comprehension's block sees -/
def clOf (scope : Scope) (env : Env) : List (Str × Addr) :=
  (scope.names.filterMap fun p => if p.2 = NameKind.free then (env.cells.lookup p.1).map fun c => (p.1, c) else none).reverse

theorem lookup_memOf {α : Type} {x : Str} {c : α} : ∀ {l : List (Str × α)}, l.lookup x = some c → (x, c) ∈ l
  | [], h => by simp at h
  | (y, d) :: r, h => by
    rw [List.lookup_cons] at h
    cases e : x == y with
    | true =>
      rw [e] at h
      have h' : d = c := Option.some.inj h
      rw [h', eq_of_beq e]
      exact List.mem_cons_self
    | false =>
      rw [e] at h
      exact List.mem_cons_of_mem _ (lookup_memOf h)
theorem lookup_ofMem {α : Type} {x : Str} {c : α} : ∀ {l : List (Str × α)}, (x, c) ∈ l → ∃ d, l.lookup x = some d
  | [], h => by simp at h
  | (y, d) :: r, h => by
    rw [List.lookup_cons]
    cases e : x == y with
    | true => exact ⟨d, rfl⟩
    | false =>
      rcases List.mem_cons.mp h with z | z
      · have z1 : x = y := congrArg Prod.fst z
        rw [z1, beq_self_eq_true] at e
        cases e
      · exact lookup_ofMem z

theorem mem_clOf {scope : Scope} {env : Env} {x : Str} {c : Addr} : (x, c) ∈ clOf scope env ↔ (x, NameKind.free) ∈ scope.names ∧ env.cells.lookup x = some c := by
  unfold clOf
  rw [List.mem_reverse, List.mem_filterMap]
  constructor
  · rintro ⟨⟨y, k⟩, hm, e⟩
    by_cases hk : k = NameKind.free
    · subst hk
      rw [if_pos rfl] at e
      cases q : env.cells.lookup y with
      | none => rw [q] at e; cases e
      | some d =>
        rw [q] at e
        have e' : (y, d) = (x, c) := Option.some.inj e
        cases e'
        exact ⟨hm, q⟩
    · rw [if_neg hk] at e
      cases e
  · rintro ⟨hm, q⟩
    exact ⟨(x, NameKind.free), hm, by rw [if_pos rfl]; rw [q]; rfl⟩
theorem clOf_env {scope : Scope} {env : Env} {x : Str} {c : Addr} (h : (clOf scope env).lookup x = some c) : env.cells.lookup x = some c := (mem_clOf.mp (lookup_memOf h)).2
theorem clOf_has {scope : Scope} {env : Env} {x : Str} {c : Addr} (hm : (x, NameKind.free) ∈ scope.names) (h : env.cells.lookup x = some c) : (clOf scope env).lookup x = some c := by
  obtain ⟨d, e⟩ := lookup_ofMem (mem_clOf.mpr ⟨hm, h⟩)
  rw [e, ← h]
  exact (clOf_env e).symm

theorem closure_go {env : Env} : ∀ (names : List (Str × NameKind)) (cs : List (Str × Addr)), (∀ p ∈ names, p.2 = .free → ∃ c, env.cells.lookup p.1 = some c) →
    (forIn names cs fun (x : Str × NameKind) (cs : List (Str × Addr)) => (match x with
      | (name, kind) => if (kind == .free) = true then (do let a ← cellOf env name; pure (ForInStep.yield ((name, a) :: cs))) else pure (ForInStep.yield cs) : Sem (ForInStep (List (Str × Addr)))))
      = pure ((names.filterMap fun p => if p.2 = NameKind.free then (env.cells.lookup p.1).map fun c => (p.1, c) else none).reverse ++ cs)
  | [], cs, _ => rfl
  | (n, k) :: r, cs, h => by
    rw [List.forIn_cons]
    have hr : ∀ p ∈ r, p.2 = .free → ∃ c, env.cells.lookup p.1 = some c := fun p hp => h p (List.mem_cons_of_mem _ hp)
    by_cases hk : k = NameKind.free
    · subst hk
      obtain ⟨c, hc⟩ := h (n, .free) List.mem_cons_self rfl
      have e1 : cellOf env n = pure c := by unfold cellOf; rw [show env.cells.lookup n = some c from hc]
      show ((do let a ← cellOf env n; pure (ForInStep.yield ((n, a) :: cs)) : Sem (ForInStep (List (Str × Addr)))) >>= _) = _
      rw [e1]
      simp only [pure_bind]
      rw [closure_go r ((n, c) :: cs) hr, List.filterMap_cons, if_pos rfl, show env.cells.lookup n = some c from hc]
      simp
    · have hb : (k == NameKind.free) = false := by simpa using hk
      show ((if (k == NameKind.free) = true then (do let a ← cellOf env n; pure (ForInStep.yield ((n, a) :: cs))) else pure (ForInStep.yield cs) : Sem (ForInStep (List (Str × Addr)))) >>= _) = _
      rw [hb, if_neg Bool.false_ne_true]
      simp only [pure_bind]
      rw [closure_go r cs hr, List.filterMap_cons, if_neg hk]
theorem closure_is {scope : Scope} {env : Env} (h : ∀ p ∈ scope.names, p.2 = .free → ∃ c, env.cells.lookup p.1 = some c) : closureFor scope env = pure (clOf scope env) := by
  have e := closure_go scope.names [] h
  rw [List.append_nil] at e
  unfold closureFor clOf
  simp only [bind_pure]
  exact e

theorem lookup_relabel {env : Env} {x : Str} : ∀ {names : List (Str × NameKind)} {k : NameKind},
    (names.map fun (n, k) => if (k == NameKind.free && env.scope.kind == .function && env.kindOf n == some .cell) then (n, NameKind.cell) else (n, k)).lookup x = some k →
      ∃ k', (x, k') ∈ names ∧ (k' = k ∨ (k' = .free ∧ k = .cell))
  | [], _, h => by simp at h
  | (n, j) :: r, k, h => by
    by_cases hc : (j == NameKind.free && env.scope.kind == .function && env.kindOf n == some .cell) = true
    · rw [List.map_cons] at h
      have h' : List.lookup x ((if (j == NameKind.free && env.scope.kind == .function && env.kindOf n == some .cell) = true then (n, NameKind.cell) else (n, j)) :: _) = some k := h
      rw [if_pos hc, List.lookup_cons] at h'
      cases e : x == n with
      | true =>
        rw [e] at h'
        have h2 : NameKind.cell = k := Option.some.inj h'
        have hj : j = NameKind.free := by
          have := hc
          rw [Bool.and_eq_true, Bool.and_eq_true] at this
          exact eq_of_beq this.1.1
        exact ⟨j, by rw [eq_of_beq e]; exact List.mem_cons_self, .inr ⟨hj, h2.symm⟩⟩
      | false =>
        rw [e] at h'
        obtain ⟨k', hm, q⟩ := lookup_relabel h'
        exact ⟨k', List.mem_cons_of_mem _ hm, q⟩
    · rw [List.map_cons] at h
      have h' : List.lookup x ((if (j == NameKind.free && env.scope.kind == .function && env.kindOf n == some .cell) = true then (n, NameKind.cell) else (n, j)) :: _) = some k := h
      rw [if_neg hc, List.lookup_cons] at h'
      cases e : x == n with
      | true =>
        rw [e] at h'
        exact ⟨j, by rw [eq_of_beq e]; exact List.mem_cons_self, .inl (Option.some.inj h')⟩
      | false =>
        rw [e] at h'
        obtain ⟨k', hm, q⟩ := lookup_relabel h'
        exact ⟨k', List.mem_cons_of_mem _ hm, q⟩

/-- what is asked of a comprehension's own names, over the names N and the scope sc of the def around it: N' the block's names, ix where each stands outside -/
def compOk (N : List Str) (sc scope : Scope) (N' : List Str) (ix : List (Option Nat)) : Bool :=
  scope.kind == .function && scope.names.all (fun y => y.2 != .cell) && scope.names.all (fun y => y.2 != .local || scope.names.lookup y.1 == some .local) &&
  scope.names.all (fun y => y.2 != .free || sc.names.lookup y.1 == some .cell || sc.names.lookup y.1 == some .free) &&
  decide (ix.length = N'.length) && decide N'.Nodup &&
  (N'.zip ix).all fun p => match p.2 with
    | none => scope.names.all fun y => y.1 != p.1 || y.2 == .local
    | some k => N[k]? == some p.1 && scope.names.lookup p.1 == some .free && scope.names.all fun y => y.1 != p.1 || y.2 == .free
structure CompOk (N : List Str) (sc scope : Scope) (N' : List Str) (ix : List (Option Nat)) : Prop where
  kind : scope.kind = .function
  nocell : ∀ y ∈ scope.names, y.2 ≠ .cell
  names : ∀ y ∈ scope.names, y.2 = .local → scope.names.lookup y.1 = some .local
  frees : ∀ y ∈ scope.names, y.2 = .free → sc.names.lookup y.1 = some .cell ∨ sc.names.lookup y.1 = some .free
  len : ix.length = N'.length
  nd : N'.Nodup
  own : ∀ (i : Nat) (x : Str), N'[i]? = some x → ix[i]? = some none → ∀ y ∈ scope.names, y.1 = x → y.2 = .local
  out : ∀ (i : Nat) (x : Str) (k : Nat), N'[i]? = some x → ix[i]? = some (some k) → N[k]? = some x ∧ (x, NameKind.free) ∈ scope.names ∧ ∀ y ∈ scope.names, y.1 = x → y.2 = .free
theorem compOk_is {N : List Str} {sc scope : Scope} {N' : List Str} {ix : List (Option Nat)} (h : compOk N sc scope N' ix = true) : CompOk N sc scope N' ix := by
  unfold compOk at h
  simp only [Bool.and_eq_true, List.all_eq_true, Bool.or_eq_true, bne_iff_ne, beq_iff_eq, decide_eq_true_eq, ne_eq] at h
  obtain ⟨⟨⟨⟨⟨⟨h1, h2⟩, h3⟩, h4⟩, h5⟩, h6⟩, h7⟩ := h
  have zipAt : ∀ {i : Nat} {x : Str} {o : Option Nat}, N'[i]? = some x → ix[i]? = some o → (x, o) ∈ N'.zip ix := fun {i x o} a b => by
    refine List.mem_of_getElem? (i := i) ?_
    rw [List.getElem?_zip_eq_some]
    exact ⟨a, b⟩
  refine ⟨h1, fun y hy => h2 y hy, fun y hy e => ?_, fun y hy e => ?_, h5, h6, fun i x a b y hy e => ?_, fun i x k a b => ?_⟩
  · rcases h3 y hy with z | z
    · exact absurd e z
    · exact z
  · rcases h4 y hy with (z | z) | z
    · exact absurd e z
    · exact .inl z
    · exact .inr z
  · have q := h7 _ (zipAt a b)
    simp only [List.all_eq_true, Bool.or_eq_true, bne_iff_ne, beq_iff_eq, ne_eq] at q
    rcases q y hy with z | z
    · exact absurd e z
    · exact z
  · have q := h7 _ (zipAt a b)
    simp only [Bool.and_eq_true, List.all_eq_true, Bool.or_eq_true, bne_iff_ne, beq_iff_eq, ne_eq] at q
    obtain ⟨⟨q1, q2⟩, q3⟩ := q
    refine ⟨q1, lookup_memOf q2, fun y hy e => ?_⟩
    rcases q3 y hy with z | z
    · exact absurd e z
    · exact z

/-- the block's values at its start: what its free names hold outside -/
def blkSt (ix : List (Option Nat)) (σ : St) : St := ix.map fun o => match o with
  | some k => (σ[k]?).join
  | none => none
/-- the context of a comprehension's block -/
def blk (X : Cx) (scope : Scope) (N' : List Str) (C : Addr) (fp : List Addr) (s₂ : Shared) (H₂ : Hp) : Cx :=
  { X with N := N', s₀ := s₂, H₀ := H₂, env := compEnvC scope (clOf scope X.env) C X.env, outer := X.stack, stack := X.stack, ex := fp, fn := fun _ => false, pn := [], xe := fun _ _ => False }

abbrev lstO (its : List Value) (n : Nat) : Obj := { cls := .type "list", data := .seq its.toArray n }

section
variable {X : Cx} {scope : Scope} {N' : List Str} {ix : List (Option Nat)} {C : Addr} {fp : List Addr} {s₂ : Shared} {H₂ : Hp} {pins : List (Addr × Obj)} {σ : St}

theorem blk_cells (I : Inv X pins σ H₂ s₂) {x : Str} {c : Addr} (h : (clOf scope X.env).lookup x = some c) : c < s₂.heap.objs.size := by
  obtain ⟨v, q⟩ := I.cell x c (clOf_env h)
  exact q.lt
theorem blk_ok (I : Inv X pins σ H₂ s₂) (co : CompOk X.N X.env.scope scope N' ix) (hC : @LE.le Nat _ s₂.heap.objs.size C) (hf : ∀ b ∈ fp, FpOk X pins H₂ b) (hlt : ∀ b ∈ fp, b < s₂.heap.objs.size) : (blk X scope N' C fp s₂ H₂).Ok where
  mod := I.ok.mod
  kind := co.kind
  glob := I.ok.glob
  blt := I.ok.blt
  above := hC
  inj := fun x y c e1 e2 => I.ok.inj x y c (clOf_env e1) (clOf_env e2)
  has := fun x h => by
    have h1 : ∃ k, (relabel scope X.env).names.lookup x = some k ∧ (k = .cell ∨ k = .free) := by
      rcases h with h | h
      · exact ⟨_, h, .inl rfl⟩
      · exact ⟨_, h, .inr rfl⟩
    obtain ⟨k, h1, h2⟩ := h1
    obtain ⟨k', hm, q⟩ := lookup_relabel h1
    have hk : k' = .free := by
      rcases q with q | ⟨q, _⟩
      · rcases h2 with z | z
        · exact absurd (q.trans z) (co.nocell _ hm)
        · exact q.trans z
      · exact q
    rw [hk] at hm
    obtain ⟨c, hc⟩ := I.ok.has x (co.frees _ hm rfl)
    exact ⟨c, clOf_has hm hc⟩
  cab := fun x c h => by
    have h' : false = true := h
    cases h'
  hd := I.ok.hd
  frames := I.ok.frames
  stk := .inl rfl
  exf := fun b hb => ⟨Nat.ne_of_lt (Nat.lt_of_lt_of_le (hlt b hb) hC), fun x c e => (hf b hb).2.2.2.2.1 x c (clOf_env e)⟩
  bs := I.bs
  bsz := Nat.le_trans I.ok.bsz I.sz
  noex := fun b o e hb => by
    rcases (hf b hb).2.2.2.1 with z | z
    · exact I.ok.noex b o e z
    · exact absurd (Nat.lt_of_lt_of_le (Heap.lt_size (I.ok.bs b o e).1) z) (Nat.lt_irrefl _)
  exfs := fun b hb z => by
    rcases List.mem_cons.mp (I.stkSub b z) with e | e
    · exact (hf b hb).2.1 e
    · exact (hf b hb).2.2.1 e
  funs := I.stack
  frf := I.stkFree
theorem blk_nofs (I : Inv X pins σ H₂ s₂) {b : Addr} (h : s₂.heap.objs.size ≤ b) : b ∉ frs X.stack := fun z => by
  rcases List.mem_cons.mp (I.stkSub b z) with e | e
  · rw [e] at h; exact absurd (Nat.lt_of_lt_of_le I.lt h) (Nat.lt_irrefl _)
  · exact I.nofs h e
/-- the block begins: the accumulator (at D) stands pinned -/
theorem blk_start (I : Inv X pins σ H₂ s₂) (co : CompOk X.N X.env.scope scope N' ix) {D : Addr} {h₁ : Heap} {t' : Nat} (hD : @Eq Nat D s₂.heap.objs.size) (hC : @Eq Nat C (s₂.heap.objs.size + 1)) (hf : ∀ b ∈ fp, FpOk X pins H₂ b) (hlt : ∀ b ∈ fp, b < s₂.heap.objs.size)
    (old : ∀ b o, s₂.heap.get? b = some o → h₁.get? b = some o) (hacc : h₁.get? D = some (lstO [] 0)) {m : Str → Option Value} (hns : h₁.Ns C m) :
    Inv (blk X scope N' C fp s₂ H₂) [(D, lstO [] 0)] (blkSt ix σ) H₂ { s₂ with heap := h₁, toks := t' } where
  ok := blk_ok I co (by omega) hf hlt
  os := rfl
  bare := I.bare
  base := Un.kept old
  loc := by
    refine ⟨m, hns, fun i x v e1 e2 e3 => ?_⟩
    unfold blkSt at e2
    rw [List.getElem?_map] at e2
    cases q : ix[i]? with
    | none => rw [q] at e2; cases e2
    | some o =>
      rw [q] at e2
      cases o with
      | none => cases e2
      | some k =>
        have e2' : (σ[k]?).join = some v := Option.some.inj e2
        have e2'' : σ[k]? = some (some v) := by
          cases z : σ[k]? with
          | none => rw [z] at e2'; cases e2'
          | some o => rw [z] at e2'; exact congrArg some e2'
        obtain ⟨o1, o2, o3⟩ := co.out i x k e1 q
        have hk : X.env.kindOf x = some .cell ∨ X.env.kindOf x = some .free := co.frees _ o2 rfl
        have vis : Vis X.env.scope x := .inr hk
        obtain ⟨m0, _, hl⟩ := I.loc
        obtain ⟨u, r, l⟩ := hl k x v o1 e2'' vis
        refine ⟨u, r, ?_⟩
        rcases l with ⟨l, _⟩ | ⟨_, c, ec, hcell⟩
        · rcases hk with z | z
          · rw [z] at l; cases l
          · rw [z] at l; cases l
        · refine .inr ⟨?_, c, clOf_has o2 ec, ?_⟩
          · rcases e3 with z | z | z
            · obtain ⟨k', hm, q⟩ := lookup_relabel z
              rcases q with q | ⟨_, q⟩
              · have := o3 _ hm rfl
                rw [show k' = NameKind.local from q] at this
                cases this
              · cases q
            · exact .inl z
            · exact .inr z
          · obtain ⟨o, ho, hd⟩ := hcell
            exact ⟨o, old _ _ ho, hd⟩
  cell := fun x c e => by
    obtain ⟨v, o, ho, hd⟩ := I.cell x c (clOf_env e)
    exact ⟨v, o, old _ _ ho, hd⟩
  free := I.hok.fresh (by show @LE.le Nat _ s₂.heap.objs.size C; omega)
  freeC := fun x c e => I.freeC x c (clOf_env e)
  pin := fun p hp => by
    have e : p = (D, lstO [] 0) := by simpa [blk] using hp
    subst e
    refine ⟨hacc, I.hok.fresh (by show @LE.le Nat _ s₂.heap.objs.size D; omega), by show ¬ @Eq Nat D C; omega, blk_nofs I (by show @LE.le Nat _ s₂.heap.objs.size D; omega), fun v z => ?_⟩
    have z' : Data.seq _ _ = Data.cell v := z
    cases z'
  hok := I.hok.kept old
  len := by unfold blkSt; rw [List.length_map]; exact co.len
/-- the block is left: the accumulator is tracked -/
theorem blk_leave (I : Inv X pins σ H₂ s₂) {D : Addr} (hD : @Eq Nat D s₂.heap.objs.size) (hf : ∀ b ∈ fp, FpOk X pins H₂ b) {ys : List V} {its : List Value} {n : Nat} {σ' : St} {H' : Hp} {s' : Shared}
    (I' : Inv (blk X scope N' C fp s₂ H₂) [(D, lstO its n)] σ' H' s') (hv : Vals ys its) (hz : ys.length ≤ sizeLine) : Inv X pins σ (upd H' D (.lst ys)) s' := by
  obtain ⟨dp, dn, _, _, _⟩ := I'.pin (D, lstO its n) (by simp)
  have dp' : s'.heap.get? D = some (lstO its n) := dp
  have dn' : H' D = none := dn
  have u := I'.base
  have ne : ∀ b o, s₂.heap.get? b = some o → b ≠ D := fun b o e z => by
    have h1 : @LT.lt Nat _ b s₂.heap.objs.size := Heap.lt_size e
    have h2 : @Eq Nat b D := z
    omega
  have neH : ∀ b o, H₂ b = some o → b ≠ D := fun b o e z => by
    have h1 : @LT.lt Nat _ b s₂.heap.objs.size := I.hok.lt e
    have h2 : @Eq Nat b D := z
    omega
  refine I.call' (ch := fp) I'.os ⟨u.keep, u.slot, fun b o e q hb => ?_, u.there, fun b xs q => ?_, fun b o xs q => ?_, fun b ps q => ?_⟩ (fun b o e => ?_) I'.bare fun b hb => ?_
  · rw [upd_ne (ne b o e)]
    exact u.free b o e q hb
  · rw [upd_ne (neH b _ q)]
    exact u.tups b xs q
  · rw [upd_ne (neH b _ q)]
    exact u.frzs b o xs q
  · rw [upd_ne (neH b _ q)]
    exact u.tbls b ps q
  · by_cases hb : b = D
    · subst hb
      rw [upd_same] at e
      cases e
      exact ⟨hz, its, n, hv, dp'⟩
    · rw [upd_ne hb] at e
      exact (I'.hok b o e).stay (fun c v _ q => q) (fun c q => by rw [upd_ne (ne_of_none q dn')]; exact q) fun c xs q => by rw [upd_ne (ne_of_none q dn')]; exact q
  · obtain ⟨_, f1, _, f3, f4, f5⟩ := hf b hb
    exact ⟨f3, f1, f4, f5⟩
end
end L2
namespace L2
open PySem PySem.Spec PyProof.Rows
abbrev NoE : Value → Shared → Prop := fun _ _ => False
section
variable {prog : Program} {w : World} {A : Around} {R : Result → Shared → Prop} {s : Shared}
/-- a comprehension's turns, with the step ahead of the store -/
theorem compLoop_own {elt target iter : Expr} {ifs : List Expr} {scope : Scope} {pos : Pos} {it acc : Value} {env : Env} (I : Nat → Shared → Prop)
    (turn : ∀ n s, I n s → wpAny (model prog w) A (pyNext it) (fun r s₁ => match r with
      | none => R (.ok .next) s₁
      | some v => wpAny (model prog w) A (letOwnedTupleGo target it v) (fun _ s₁ => wpAny (model prog w) A (assign target env v) (fun _ s₂ =>
          wpAny (model prog w) A (forIn ifs true fun c r => if r = true then do let ok ← isTrue c env (eval c env); pure (ForInStep.yield ok) else pure (ForInStep.yield r)) (fun ok s₃ =>
            if ok = true then wpAny (model prog w) A (eval elt env) (fun x s₄ =>
              wpAny (model prog w) A (call (.builtin "list.append") [acc, x]) (fun _ s₅ => ∃ m, m < n ∧ I m s₅) NoE s₄) NoE s₃
            else ∃ m, m < n ∧ I m s₃) NoE s₂) NoE s₁) NoE s₁) NoE s)
    (n : Nat) (h : I n s) : codeAny (model prog w) A (.compLoop (.ListComp elt [⟨target, iter, ifs, 0⟩] scope pos) 0 it acc env) R s := by
  refine codeAny_loop rfl I (fun n s hI => ?_) n h
  show wpAny _ A ((compTurn (.ListComp elt [⟨target, iter, ifs, 0⟩] scope pos) 0 it acc env).onRaise (fun x => do noteFrame x env; theTreesLotGoes x)) _ _ s
  refine wpAny_noted ?_
  rw [compTurn_list]
  refine wpAny_bind (wpAny_standAt (wpAny_bind (wpAny_mono (turn n s hI) (fun r s₁ h₁ => ?_) fun _ _ h' => h'.elim)))
  cases r with
  | none => exact wpAny_pure h₁
  | some v =>
    refine wpAny_bind (wpAny_mono h₁ (fun _ s₁ h₁ => ?_) fun _ _ h' => h'.elim)
    refine wpAny_bind (wpAny_mono h₁ (fun _ s₂ h₂ => wpAny_bind (wpAny_mono h₂ (fun ok s₃ h₃ => ?_) fun _ _ h' => h'.elim)) fun _ _ h' => h'.elim)
    cases ok with
    | false => exact wpAny_pure ⟨rfl, h₃⟩
    | true =>
      exact wpAny_bind (wpAny_bind (wpAny_mono h₃ (fun x s₄ h₄ => wpAny_bind (wpAny_mono h₄ (fun _ s₅ h₅ => wpAny_pure (wpAny_pure ⟨rfl, h₅⟩)) fun _ _ h' => h'.elim)) fun _ _ h' => h'.elim))
end

/-- the tests of a comprehension -/
def PIf (X : Cx) (ifs : List Expr) (t : TT) : Prop :=
  ∀ (pins : List (Addr × Obj)) (s : Shared) (σ : St) (H : Hp) (Q : Bool → Hp → Prop), Inv X pins σ H s → t σ H Q →
    wpAny (model X.prog X.w) X.A (forIn ifs true fun c r => if r = true then do let ok ← isTrue c X.env (eval c X.env); pure (ForInStep.yield ok) else pure (ForInStep.yield r)) (TP X pins σ Q) X.xe s
def tYes : TT := fun _ H Q => Q true H
theorem pif_nil {X : Cx} : PIf X [] tYes := fun _ _ _ H _ I h => wpAny_tests_nil ⟨H, I, h⟩
theorem pif_one {X : Cx} {c : Expr} {t : TT} (h : PT X c t) : PIf X [c] t := fun pins s σ H Q I q => wpAny_tests_one (h pins s σ H Q I q)

/-- what is wanted of the list that was made -/
def lcEnd (Q : VK) (ys : List V) (H : Hp) : Prop := ∀ p, H p = none → Q (.ref p) (upd H p (.lst ys))
/-- the reading of [elt for tg in iter if ..]: W by the turn, a measure, the list so far, the block's values, the heap -/
def tLc (ix : List (Option Nat)) (wi : TI) (g : TG) (ti : TT) (te : TE) : TE := fun σ H Q => wi σ H fun J H1 => ∃ W : Nat → Nat → List V → St → Hp → Prop, (∃ m, W 0 m [] (blkSt ix σ) H1) ∧ ∀ i m ys σ H, W i m ys σ H →
  ys.length ≤ sizeLine ∧ ((J.stop i H ∧ lcEnd Q ys H) ∨
    (J.go i H ∧ ∃ N : List V → St → Hp → Prop, (∀ ys' σ' H', N ys' σ' H' → ∃ m', m' < m ∧ W (i + 1) m' ys' σ' H') ∧
      ∀ x H', J.yld i H x H' → g x σ H' fun σ2 H2 => ti σ2 H2 fun b H3 => if b = true then te σ2 H3 fun y H4 => N (ys ++ [y]) σ2 H4 else N ys σ2 H3))

/-- the block's own frame: it may go -/
structure Gone (X : Cx) (pins : List (Addr × Obj)) (H : Hp) (s : Shared) (C : Addr) : Prop where
  ns : ∃ m, s.heap.Ns C m
  fr : H C = none
  nl : C ≠ X.env.locals
  ab : X.s₀.heap.objs.size ≤ C
  nc : ∀ x c, X.env.cells.lookup x = some c → c ≠ C
  np : ∀ p ∈ X.pn ++ pins, p.1 ≠ C
section
variable {X : Cx}
theorem blk_run {scope : Scope} {N' : List Str} {ix : List (Option Nat)} {pins : List (Addr × Obj)} {σ : St} {tg iter elt : Expr} {ifs : List Expr} {pos : Pos} {g : TG} {ti : TT} {te : TE} {E : Value → Shared → Prop}
    (co : CompOk X.N X.env.scope scope N' ix) (hc : X.calm = true)
    (hg : ∀ C fp s₂ H₂, PG (blk X scope N' C fp s₂ H₂) tg g) (hi : ∀ C fp s₂ H₂, PIf (blk X scope N' C fp s₂ H₂) ifs ti) (he : ∀ C fp s₂ H₂, PE (blk X scope N' C fp s₂ H₂) elt te)
    {H₂ : Hp} {s₂ : Shared} {J : It} {fp : List Addr} {it : Addr} {tn : Nat → Heap → Prop} {QF : List V → Hp → Prop}
    (I : Inv X pins σ H₂ s₂) (T : Turn X.prog X.w X.K tg J fp it tn) (st : tn 0 s₂.heap) (hf : ∀ b ∈ fp, FpOk X pins H₂ b)
    {W : Nat → Nat → List V → St → Hp → Prop} (w0 : ∃ m, W 0 m [] (blkSt ix σ) H₂)
    (hW : ∀ i m ys σ H, W i m ys σ H → ys.length ≤ sizeLine ∧ ((J.stop i H ∧ QF ys H) ∨
      (J.go i H ∧ ∃ N : List V → St → Hp → Prop, (∀ ys' σ' H', N ys' σ' H' → ∃ m', m' < m ∧ W (i + 1) m' ys' σ' H') ∧
        ∀ x H', J.yld i H x H' → g x σ H' fun σ2 H2 => ti σ2 H2 fun b H3 => if b = true then te σ2 H3 fun y H4 => N (ys ++ [y]) σ2 H4 else N ys σ2 H3)))
    {RR : Value → Addr → Result → Shared → Prop}
    (hRR : ∀ D C ys H' s', Inv X pins σ (upd H' D (.lst ys)) s' → H' D = none → QF ys H' → Gone X pins (upd H' D (.lst ys)) s' C → RR (.ref D) C (.ok .next) s') :
    wpAny (model X.prog X.w) X.A (newList []) (fun acc s₃ => wpAny (model X.prog X.w) X.A (newFunctionEnv scope X.env.globals (clOf scope X.env) [] X.env.qual none .none (some X.env)) (fun cenv s₄ =>
      codeAny (model X.prog X.w) X.A (.compStart (.ListComp elt [⟨tg, iter, ifs, 0⟩] scope pos) 0 (.ref it) acc { cenv with scope := relabel scope X.env }) (RR acc cenv.locals) s₄) E s₃) E s₂ := by
  have hlt : ∀ b ∈ fp, @LT.lt Nat _ b s₂.heap.objs.size := fun b hb => by
    obtain ⟨o, e, _⟩ := T.obj _ _ st b hb
    exact Heap.lt_size e
  refine wpAny_newObj_type (wpAny_newFunctionEnv co.nocell (by intro y hy; simp at hy) (fun h₁ hns₁ hsb₁ => ?_) co.kind)
  dsimp only at hns₁ hsb₁ ⊢
  generalize hH2 : s₂.heap.push { cls := .type "list", dict := none, data := .seq ([] : List Value).toArray } = H2 at hns₁ hsb₁ ⊢
  have hC : @Eq Nat H2.objs.size (s₂.heap.objs.size + 1) := by rw [← hH2, Heap.size_push]
  have below : ∀ b : Nat, b < s₂.heap.objs.size → ¬ @Eq Nat b H2.objs.size := fun b hb => by omega
  have hDC : ¬ @Eq Nat s₂.heap.objs.size H2.objs.size := by omega
  have old : ∀ b o, s₂.heap.get? b = some o → h₁.get? b = some o := fun b o e => hsb₁.extBut b o (below b (Heap.lt_size e)) (Heap.get?_push_of_some _ (hH2 ▸ Heap.get?_push_of_some _ e))
  have hacc : h₁.get? s₂.heap.objs.size = some (lstO [] 0) := hsb₁.extBut _ _ hDC (Heap.get?_push_of_some _ (hH2 ▸ Heap.get?_push_size _ rfl))
  have st₁ : tn 0 h₁ := T.keep _ _ _ st fun b _ o e => old b o e
  generalize hCe : H2.objs.size = C at hns₁ hsb₁ hC below hDC ⊢
  generalize hDe : s₂.heap.objs.size = D at hacc hDC ⊢
  have loop : ∀ s₃ : Shared, s₃ = { s₂ with heap := h₁, toks := s₂.toks + ([] : List (Str × Value)).length } →
      codeAny (model X.prog X.w) X.A (.compLoop (.ListComp elt [⟨tg, iter, ifs, 0⟩] scope pos) 0 (.ref it) (.ref D) (compEnvC scope (clOf scope X.env) C X.env)) (RR (.ref D) C) s₃ := by
    rintro s₃ rfl
    obtain ⟨m0, w0⟩ := w0
    have I3 : Inv (blk X scope N' C fp s₂ H₂) [(D, lstO [] 0)] (blkSt ix σ) H₂ { s₂ with heap := h₁, toks := s₂.toks + ([] : List (Str × Value)).length } := blk_start I co hDe.symm hC hf hlt old hacc hns₁
    refine compLoop_own (fun k s' => ∃ i ys its n σ' H', Inv (blk X scope N' C fp s₂ H₂) [(D, lstO its n)] σ' H' s' ∧ Vals ys its ∧ tn i s'.heap ∧ (∀ b ∈ fp, H' b = none) ∧ W i k ys σ' H') ?_ m0
      ⟨0, [], [], 0, _, _, I3, .nil, st₁, fun b hb => (hf b hb).1, w0⟩
    rintro k s' ⟨i, ys, its, n, σ', H', I', hv, st', fr', w'⟩
    have fpok : ∀ {H' : Hp} {o : Obj}, (∀ b ∈ fp, H' b = none) → ∀ b ∈ fp, FpOk (blk X scope N' C fp s₂ H₂) [(D, o)] H' b := fun {H' o} hn b hb => by
      refine ⟨hn b hb, below b (hlt b hb), fun z => ?_, .inl hb, fun x c e => (hf b hb).2.2.2.2.1 x c (clOf_env e), fun p hp z => ?_⟩
      · rcases List.mem_cons.mp (I.stkSub b z) with e | e
        · exact (hf b hb).2.1 e
        · exact (hf b hb).2.2.1 e
      · have e : p = (D, o) := by simpa [blk] using hp
        subst e
        have z' : @Eq Nat D b := z
        have z2 := hlt b hb
        omega
    obtain ⟨hz, hW'⟩ := hW i k ys σ' H' w'
    rcases hW' with ⟨stop, q⟩ | ⟨go, N, hN, step⟩
    · refine thn (T.done (blk X scope N' C fp s₂ H₂) rfl rfl rfl hc i _ s' σ' H' NoE I' (fpok fr') st' stop) fun r s4 ⟨hr, I4⟩ => ?_
      subst hr
      obtain ⟨_, dn, _⟩ := I4.pin (D, lstO its n) (by simp)
      have cf : H' C = none := I4.free
      refine hRR D C ys H' s4 (blk_leave I hDe.symm hf I4 hv hz) dn q ⟨?_, by rw [upd_ne (Ne.symm hDC)]; exact cf, ?_, ?_, fun x c e => ?_, fun p hp => ?_⟩
      · obtain ⟨m, hn, _⟩ := I4.loc
        exact ⟨m, hn⟩
      · have z : @LT.lt Nat _ X.env.locals s₂.heap.objs.size := I.lt
        show ¬ @Eq Nat C X.env.locals
        omega
      · have z : @LE.le Nat _ X.s₀.heap.objs.size s₂.heap.objs.size := I.sz
        show @LE.le Nat _ X.s₀.heap.objs.size C
        omega
      · obtain ⟨v, z⟩ := I.cell x c e
        have z2 : @LT.lt Nat _ c s₂.heap.objs.size := z.lt
        show ¬ @Eq Nat c C
        omega
      · have z2 : @LT.lt Nat _ p.1 s₂.heap.objs.size := Heap.lt_size (I.pin p hp).1
        show ¬ @Eq Nat p.1 C
        omega
    · refine thn (T.item (blk X scope N' C fp s₂ H₂) rfl rfl rfl hc i _ s' σ' H' NoE I' (fpok fr') st' go) fun r s4 ⟨u, hr, h4⟩ => ?_
      subst hr
      refine thn h4 fun _ s5 ⟨x, H5, I5, r5, y5, st5, fr5⟩ => ?_
      have I5' := I5.pinned (fpok fr5) (T.obj _ _ st5)
      refine thn (hg C fp s₂ H₂ _ s5 σ' H5 x u _ I5' r5 (step x H5 y5)) fun _ s6 ⟨σ6, H6, I6, q6⟩ => ?_
      refine thn (hi C fp s₂ H₂ _ s6 σ6 H6 _ I6 q6) fun ok s7 ⟨H7, I7, q7⟩ => ?_
      have fpin : ∀ {σ8 : St} {H8 : Hp} {s8 : Shared}, Inv (blk X scope N' C fp s₂ H₂) ([(D, lstO its n)] ++ pinsAt fp s5.heap) σ8 H8 s8 → ∀ b ∈ fp, ∀ o, s5.heap.get? b = some o → s8.heap.get? b = some o ∧ H8 b = none := fun {σ8 H8 s8} I8 b hb o e => by
        have z := I8.pin (b, o) (List.mem_append_right _ (List.mem_append_right _ (mem_pinsAt hb e)))
        exact ⟨z.1, z.2.1⟩
      cases ok with
      | false =>
        have q7' : N ys σ6 H7 := by
          have q7' := q7
          rw [if_neg Bool.false_ne_true] at q7'
          exact q7'
        obtain ⟨m', hm, w7⟩ := hN _ _ _ q7'
        refine ⟨m', hm, i + 1, ys, its, n, σ6, H7, I7.unpinned, hv, T.keep _ _ _ st5 fun b hb o e => (fpin I7 b hb o e).1, fun b hb => ?_, w7⟩
        obtain ⟨o, e, _⟩ := T.obj _ _ st5 b hb
        exact (fpin I7 b hb o e).2
      | true =>
        have q7' : te σ6 H7 fun y H4 => N (ys ++ [y]) σ6 H4 := by
          have q7' := q7
          rw [if_pos rfl] at q7'
          exact q7'
        show wpAny _ _ _ _ _ _
        refine thn (he C fp s₂ H₂ _ s7 σ6 H7 _ I7 q7') fun yv s8 ⟨y, H8, I8, r8, q8⟩ => ?_
        obtain ⟨m', hm, w8⟩ := hN _ _ _ q8
        obtain ⟨z1, z2, z3, z4, z5⟩ := I8.pin (D, lstO its n) (by simp)
        have zD : s8.heap.get? D = some (lstO its n) := z1
        have lenv := hv.length
        refine append_at (hsz := by rw [List.size_toArray]; omega) zD fun h9 hs9 hD9 => ?_
        have I8' : Inv (blk X scope N' C fp s₂ H₂) (pinsAt fp s5.heap) σ6 H8 s8 := I8.pins_of fun p hp => I8.pin p (List.mem_append_right _ (List.mem_append_right _ hp))
        have I9 : Inv (blk X scope N' C fp s₂ H₂) (pinsAt fp s5.heap) σ6 H8 { s8 with heap := h9 } := I8'.turned (it := D) (t' := s8.toks) (fun b o hb e => (hs9.2 b hb).trans e) z2 z3
          (.inr (by show s₂.heap.objs.size ≤ D; omega)) (fun x c e => by have z : @LT.lt Nat _ c s₂.heap.objs.size := blk_cells (scope := scope) I e; show ¬ @Eq Nat c D; omega) (fun p hp => by
            have hp' : p ∈ pinsAt fp s5.heap := by simpa [blk] using hp
            have z := hlt _ (of_pinsAt hp').1
            show ¬ @Eq Nat p.1 D
            omega)
        have hD9' : h9.get? D = some (lstO (its ++ [yv]) (n + 1)) := by
          rw [hD9]
          simp [lstO]
        have I10 : Inv (blk X scope N' C fp s₂ H₂) [(D, lstO (its ++ [yv]) (n + 1))] σ6 H8 { s8 with heap := h9 } := I9.pins_of fun p hp => by
          have e : p = (D, lstO (its ++ [yv]) (n + 1)) := by simpa using hp
          subst e
          refine ⟨hD9', z2, z3, z4, fun v z => ?_⟩
          have z' : Data.seq _ _ = Data.cell v := z
          cases z'
        refine ⟨m', hm, i + 1, ys ++ [y], its ++ [yv], n + 1, σ6, H8, I10, hv.append (.cons r8 .nil), T.keep _ _ _ st5 fun b hb o e => ?_, fun b hb => ?_, w8⟩
        · have hbD : b ≠ D := by
            have z := hlt b hb
            show ¬ @Eq Nat b D
            omega
          exact (hs9.2 b hbD).trans (fpin I8 b hb o e).1
        · obtain ⟨o, e, _⟩ := T.obj _ _ st5 b hb
          exact (fpin I8 b hb o e).2
  exact codeAny_compStart_list (loop _ rfl) (T.self _ 0 _ _ _ st₁ (loop _ rfl))

theorem Gone.go {pins : List (Addr × Obj)} {σ : St} {H : Hp} {s : Shared} {C : Addr} {h' : Heap} (G : Gone X pins H s C) (I : Inv X pins σ H s) (hs : Heap.SameBut C s.heap h') : Inv X pins σ H { s with heap := h' } :=
  I.turned (it := C) (t' := s.toks) (fun b o hb e => (hs.2 b hb).trans e) G.fr G.nl (.inr G.ab) G.nc G.np

variable {scope : Scope} {N' : List Str} {ix : List (Option Nat)} {tg iter elt : Expr} {ifs : List Expr} {pos : Pos} {wi : TI} {g : TG} {ti : TT} {te : TE}
theorem comp_clos (co : CompOk X.N X.env.scope scope N' ix) {pins : List (Addr × Obj)} {σ : St} {H : Hp} {s : Shared} (I : Inv X pins σ H s) : closureFor scope X.env = pure (clOf scope X.env) :=
  closure_is fun p hp e => I.ok.has p.1 (co.frees p hp e)
/-- [elt for tg in iter if ..] as a value -/
theorem pe_lcomp (co : CompOk X.N X.env.scope scope N' ix) (hc : X.calm = true) (hit : PI X tg iter wi) (hg : ∀ C fp s₂ H₂, PG (blk X scope N' C fp s₂ H₂) tg g) (hi : ∀ C fp s₂ H₂, PIf (blk X scope N' C fp s₂ H₂) ifs ti)
    (he : ∀ C fp s₂ H₂, PE (blk X scope N' C fp s₂ H₂) elt te) (hs : ∀ x, foldedSetIterable iter X.env x = pure x := by intro _; rfl) :
    PE X (.ListComp elt [⟨tg, iter, ifs, 0⟩] scope pos) (tLc ix wi g ti te) := by
  intro pins s σ H Q I h
  rw [eval_ListComp]
  refine wpAny_comprehension_free (use := none) rfl hs (comp_clos co I) co.kind co.names (thn (hit pins s σ H _ I h) fun xv s₁ h₁ => thn h₁ fun itv s₂ h₂ => ?_)
  obtain ⟨it, fp, tn, J, H₂, e, I₂, T, st, hf, W, w0, hW⟩ := h₂
  subst e
  refine blk_run co hc hg hi he I₂ T st hf w0 hW (RR := fun acc C => compPost (model X.prog X.w) X.A X.xe none (EP X pins σ Q) acc C) fun D C ys H' s' I' dn q G => ?_
  obtain ⟨m, hn⟩ := G.ns
  exact ⟨m, hn, fun h' hs' => ⟨.ref D, _, G.go I' hs', rfl, q D dn⟩⟩
/-- y = [..], y a plain local -/
theorem ps_lcomp {i : Nat} {y : Str} {py spos : Pos} (hN : X.N.Nodup) (hiy : X.N[i]? = some y) (hy : X.env.scope.names.lookup y = some .local) (co : CompOk X.N X.env.scope scope N' ix) (hc : X.calm = true) (hit : PI X tg iter wi)
    (hg : ∀ C fp s₂ H₂, PG (blk X scope N' C fp s₂ H₂) tg g) (hi : ∀ C fp s₂ H₂, PIf (blk X scope N' C fp s₂ H₂) ifs ti)
    (he : ∀ C fp s₂ H₂, PE (blk X scope N' C fp s₂ H₂) elt te) (hs : ∀ x, foldedSetIterable iter X.env x = pure x := by intro _; rfl)
    (hsw : swapsWith (.ListComp elt [⟨tg, iter, ifs, 0⟩] scope pos) (some (.Name y py)) spos.line X.env = pure true := by rfl) :
    PS X (.Assign [.Name y py] (.ListComp elt [⟨tg, iter, ifs, 0⟩] scope pos) spos) (tAsg (tLc ix wi g ti te) (gName i)) := by
  intro pins s σ H D I h
  rw [exec_Assign_Name_used _ _ _ _ hsw]
  refine wpAny_bind (wpAny_standAt (wpAny_bind ?_))
  show wpAny _ X.A (do let _ ← comprehension (.ListComp elt [⟨tg, iter, ifs, 0⟩] scope pos) scope X.env _ (newList []) false (eval iter X.env) (some (assign (.Name y py) X.env))) _ _ s
  refine wpAny_bind (wpAny_mono (wpAny_comprehension_free (use := some (assign (.Name y py) X.env)) (Q := fun _ s' => SP X pins D .next s') rfl hs (comp_clos co I) co.kind co.names
    (thn (hit pins s σ H _ I h) fun xv s₁ h₁ => thn h₁ fun itv s₂ h₂ => ?_)) (fun _ s' hq => wpAny_pure (wpAny_pure hq)) fun _ _ e => e)
  obtain ⟨it, fp, tn, J, H₂, e, I₂, T, st, hf, W, w0, hW⟩ := h₂
  subst e
  refine blk_run co hc hg hi he I₂ T st hf w0 hW (RR := fun acc C => compPost (model X.prog X.w) X.A X.xe (some (assign (.Name y py) X.env)) (fun _ s' => SP X pins D .next s') acc C) fun Da C ys H' s' I' dn q G => ?_
  show wpAny _ _ (assign (.Name y py) X.env (.ref Da)) _ _ s'
  refine wpAny_assign_Name (store_ok2 (v := .ref Da) I' hN hiy (.inl hy) rfl (fun s'' I'' ⟨a, sb, ha⟩ => ?_) (.inr hy))
  have hCa : C ≠ a := by
    rcases ha with z | z
    · rw [z]; exact G.nl
    · exact Ne.symm (G.nc _ _ z)
  obtain ⟨m, hn⟩ := G.ns
  have hn2 := hn.sameBut sb hCa
  have G2 : Gone X pins (upd H' Da (.lst ys)) s'' C := ⟨⟨m, hn2⟩, G.fr, G.nl, G.ab, G.nc, G.np⟩
  exact ⟨m, hn2, fun h' hs' => ⟨_, _, G2.go I'' hs', q Da dn⟩⟩
end

/-! ### the forms one uses -/
theorem lc_list {K : PySem.W.Frag} {a : Addr} {xs : List V} {g : TG} {ti : TT} {te : TE} {σ0 : St} {H0 : Hp} {Q : VK} (Pv : Nat → List V → St → Hp → Prop) (h0 : Pv 0 [] σ0 H0)
    (hl : ∀ i ys σ H, i ≤ xs.length → Pv i ys σ H → SqL K H a xs ∧ ys.length ≤ sizeLine)
    (hs : ∀ i x ys σ H, xs[i]? = some x → Pv i ys σ H → g x σ H fun σ2 H2 => ti σ2 H2 fun b H3 => if b = true then te σ2 H3 fun y H4 => Pv (i + 1) (ys ++ [y]) σ2 H4 else Pv (i + 1) ys σ2 H3)
    (hd : ∀ ys σ H, Pv xs.length ys σ H → ∀ p, H p = none → Q (.ref p) (upd H p (.lst ys))) :
    ∃ W : Nat → Nat → List V → St → Hp → Prop, (∃ m, W 0 m [] σ0 H0) ∧ ∀ i m ys σ H, W i m ys σ H →
      ys.length ≤ sizeLine ∧ (((Itl K a).stop i H ∧ lcEnd Q ys H) ∨
        ((Itl K a).go i H ∧ ∃ N : List V → St → Hp → Prop, (∀ ys' σ' H', N ys' σ' H' → ∃ m', m' < m ∧ W (i + 1) m' ys' σ' H') ∧
          ∀ x H', (Itl K a).yld i H x H' → g x σ H' fun σ2 H2 => ti σ2 H2 fun b H3 => if b = true then te σ2 H3 fun y H4 => N (ys ++ [y]) σ2 H4 else N ys σ2 H3)) := by
  refine ⟨fun i m ys σ H => m = xs.length - i ∧ i ≤ xs.length ∧ Pv i ys σ H, ⟨xs.length, by simp, Nat.zero_le _, h0⟩, ?_⟩
  rintro i m ys σ H ⟨rfl, hi, p⟩
  obtain ⟨q, hz⟩ := hl i ys σ H hi p
  refine ⟨hz, ?_⟩
  by_cases hlt : i < xs.length
  · refine .inr ⟨⟨xs, xs[i], q, by simp [hlt]⟩, Pv (i + 1), fun ys' σ' H' p' => ⟨xs.length - (i + 1), by omega, rfl, hlt, p'⟩, fun x H' y => ?_⟩
    obtain ⟨e, y⟩ := y
    subst e
    exact hs i x ys σ _ (y xs q) p
  · have e : i = xs.length := by omega
    subst e
    exact .inl ⟨⟨xs, q, Nat.le_refl _⟩, hd ys σ H p⟩
theorem lc_range {lo : Int} {n : Nat} {g : TG} {ti : TT} {te : TE} {σ0 : St} {H0 : Hp} {Q : VK} (Pv : Nat → List V → St → Hp → Prop) (h0 : Pv 0 [] σ0 H0)
    (hl : ∀ i ys σ H, i ≤ n → Pv i ys σ H → ys.length ≤ sizeLine)
    (hs : ∀ i ys σ H, i < n → Pv i ys σ H → g (.int (lo + i)) σ H fun σ2 H2 => ti σ2 H2 fun b H3 => if b = true then te σ2 H3 fun y H4 => Pv (i + 1) (ys ++ [y]) σ2 H4 else Pv (i + 1) ys σ2 H3)
    (hd : ∀ ys σ H, Pv n ys σ H → ∀ p, H p = none → Q (.ref p) (upd H p (.lst ys))) :
    ∃ W : Nat → Nat → List V → St → Hp → Prop, (∃ m, W 0 m [] σ0 H0) ∧ ∀ i m ys σ H, W i m ys σ H →
      ys.length ≤ sizeLine ∧ (((Itr lo n).stop i H ∧ lcEnd Q ys H) ∨
        ((Itr lo n).go i H ∧ ∃ N : List V → St → Hp → Prop, (∀ ys' σ' H', N ys' σ' H' → ∃ m', m' < m ∧ W (i + 1) m' ys' σ' H') ∧
          ∀ x H', (Itr lo n).yld i H x H' → g x σ H' fun σ2 H2 => ti σ2 H2 fun b H3 => if b = true then te σ2 H3 fun y H4 => N (ys ++ [y]) σ2 H4 else N ys σ2 H3)) := by
  refine ⟨fun i m ys σ H => m = n - i ∧ i ≤ n ∧ Pv i ys σ H, ⟨n, by simp, Nat.zero_le _, h0⟩, ?_⟩
  rintro i m ys σ H ⟨rfl, hi, p⟩
  refine ⟨hl i ys σ H hi p, ?_⟩
  by_cases hlt : i < n
  · refine .inr ⟨hlt, Pv (i + 1), fun ys' σ' H' p' => ⟨n - (i + 1), by omega, rfl, hlt, p'⟩, fun x H' y => ?_⟩
    obtain ⟨e, y⟩ := y
    subst e y
    exact hs i ys σ _ hlt p
  · have e : i = n := by omega
    subst e
    exact .inl ⟨Nat.le_refl _, hd ys σ H p⟩
end L2
/-! OWN RULES: isinstance, all, any, sum, [::-1], is with a bool, deep equality -/
namespace L2
open PySem PySem.Spec PyProof.Rows
section
variable {X : Cx}
/-- isinstance(x, T), T a built-in type -/
theorem call_isinst : CallR X (.builtin "isinstance") (fun xs H Q => ∃ x t T b, xs = [x, .ty T] ∧ TyOf X.K H x t ∧ PySem.W.kitOne X.K t (.type T) = some b ∧ Q (.bl b) H) := by
  intro pins s σ H xs us Q I r h
  obtain ⟨x, t, T, b, rfl, ty, e, q⟩ := h
  obtain ⟨u, w, rfl, r1, r2⟩ := vals2 r
  obtain rfl : w = Value.type T := r2
  exact isinst_ok I r1 ty e fun tk => ⟨.bl b, H, I.tok tk, rfl, q⟩

theorem walks_list {A : Around} {s : Shared} {p : Addr} {its : List Value} (hh : A.handled = none) (hl : s.heap.IsList p its.toArray) :
    ∃ (fp : List Addr), (∀ b ∈ fp, b < s.heap.objs.size + 1) ∧ Walks X.prog X.w A s.heap.objs.size fp [s.heap.objs.size] its.toArray.size (fun i v => its.toArray[i]? = some v) (fun i h => h.IsListIter s.heap.objs.size p i ∧ h.IsList p its.toArray) ∧
      ((s.heap.push { cls := .type "list_iterator", data := .fields #[.ref p, .int 0 0] }).IsListIter s.heap.objs.size p 0 ∧ (s.heap.push { cls := .type "list_iterator", data := .fields #[.ref p, .int 0 0] }).IsList p its.toArray) := by
  have hlt : p < s.heap.objs.size := by obtain ⟨_, e, _⟩ := hl; exact Heap.lt_size e
  refine ⟨[s.heap.objs.size, p], fun b hb => ?_, Walks.list (A := A) hh _ p (Nat.ne_of_lt hlt) its.toArray, ⟨_, Heap.get?_push_size _ rfl, rfl, rfl⟩, hl.push _⟩
  rcases List.mem_cons.mp hb with e | e
  · rw [e]; exact Nat.lt_succ_self _
  · rw [List.mem_singleton.mp e]; exact Nat.lt_succ_of_lt hlt
theorem kept_iter' {s : Shared} {h' : Heap} {o : Obj} (hk : ∀ b x, b ∉ [s.heap.objs.size] → (s.heap.push o).get? b = some x → h'.get? b = some x) : ∀ b x, s.heap.get? b = some x → h'.get? b = some x :=
  fun b x e => hk b x (fun hm => by rw [List.mem_singleton.mp hm] at e; exact Nat.lt_irrefl _ (Heap.lt_size e)) (Heap.get?_push_of_some _ e)
theorem vals_bl : ∀ {bs : List Bool} {us : List Value}, Vals (bs.map V.bl) us → us = bs.map Value.bool
  | [], us, h => by
    rw [List.map_nil] at h
    cases h
    rfl
  | b :: bs, us, h => by
    rw [List.map_cons] at h
    cases h with
    | cons r1 r2 =>
      cases r1
      rw [vals_bl r2, List.map_cons]
theorem truth_bl {A : Around} (bs : List Bool) (d : Bool) : ∀ (i : Nat) (v : Value) (s' : Shared) (Q' : Bool → Shared → Prop) (E' : Value → Shared → Prop), (bs.map Value.bool).toArray[i]? = some v → Q' ((bs[i]?).getD d) s' → wpAny (model X.prog X.w) A (truthy v) Q' E' s' :=
  fun i v s' Q' E' hP hQ => by
    have e : (bs.map Value.bool)[i]? = some v := by simpa using hP
    rw [List.getElem?_map] at e
    cases q : bs[i]? with
    | none => rw [q] at e; cases e
    | some b =>
      rw [q] at e hQ
      have e' : Value.bool b = v := Option.some.inj e
      subst e'
      exact wpAny_truthy_bool hQ
/-- all(xs), any(xs), xs a list of bools -/
theorem call_all (hc : X.calm = true) : CallR X (.builtin "all") (fun xs H Q => ∃ (p : Addr) (bs : List Bool), xs = [.ref p] ∧ SqL X.K H p (bs.map V.bl) ∧ Q (.bl (bs.all id)) H) := by
  intro pins s σ H xs us Q I r h
  obtain ⟨p, bs, rfl, hq, q⟩ := h
  obtain ⟨u, rfl, rx⟩ := vals1 r
  cases rx
  obtain ⟨its, r', pl, hz⟩ := I.list hq
  have ei := vals_bl r'
  subst ei
  obtain ⟨fp, hfp, W, st⟩ := walks_list (X := X) (A := X.A.in1) (s := s) (I.ok.hd hc) pl.isList
  refine call_all_walk (wpAny_pyIter_list pl.isList ⟨_, fp, _, _, _, _, fun i => (bs[i]?).getD true, rfl, W, st, truth_bl bs true, fun h' tk hk => ?_⟩)
  have e : ((List.range (bs.map Value.bool).toArray.size).all fun i => (bs[i]?).getD true) = bs.all id := by
    rw [List.size_toArray, List.length_map]; exact LSm.range_all bs
  rw [e]
  exact ⟨.bl (bs.all id), H, I.kept (t' := tk) (kept_iter' hk), rfl, q⟩
/-- xs[::k], k minus one -/
def tRev (K : PySem.W.Frag) (te tk : TE) : TE := fun σ H Q => te σ H fun x H1 => tk σ H1 fun z H2 => z = .int (-1) ∧ ∃ a xs, x = .ref a ∧ SqL K H2 a xs ∧ ∀ p, H2 p = none → Q (.ref p) (upd H2 p (.lst xs.reverse))
theorem pe_rev {e k : Expr} {te tk : TE} {pos p2 : Pos} (he : PE X e te) (hk : PE X k tk) : PE X (.Subscript e (.Slice none none (some k) p2) pos) (tRev X.K te tk) := by
  intro pins s σ H Q I h
  refine Subscript_ (thn (he pins s σ H _ I h) fun v s1 ⟨x, H1, I1, r1, q1⟩ => ?_)
  refine wpAny_Slice ?_
  rw [evalPart_none]
  refine wpAny_pure (wpAny_pure ?_)
  rw [evalPart_some]
  refine thn (hk pins s1 σ H1 _ I1 q1) fun vk s2 ⟨z, H2, I2, rz, q2⟩ => ?_
  obtain ⟨ez, a, xs, ex, hq, q⟩ := q2
  subst ez ex
  obtain ⟨t, rfl⟩ := rz
  cases r1
  have I3 : Inv X pins σ H2 { s2 with heap := s2.heap.push { cls := .type "slice", data := .fields #[.none, .none, .int (-1) t] } } := I2.kept (t' := s2.toks) fun b ob q => Heap.get?_push_of_some _ q
  obtain ⟨its, r, ht, hz⟩ := I3.list hq
  have hlen := r.length
  show wpAny (model X.prog X.w) X.A (subscriptTail e (.Slice none none (some k) p2) (.ref a) (.ref s2.heap.objs.size)) (EP X pins σ Q) X.xe { s2 with heap := s2.heap.push { cls := .type "slice", data := .fields #[.none, .none, .int (-1) t] } }
  refine tail_any (ops := [.ref a, .ref s2.heap.objs.size]) (T := "list") ht.isList.typeIs slot_list_getitem.lookup ?_ (by with_unfolding_all rfl)
  refine wpAny_getItem_list_slice ht.isList (Heap.IsSliceOf.new ..) .none .none (.int (-1) t) (by decide) ?_ (by rw [List.size_toArray]; omega)
  rw [PySem.W.krv_pick]
  generalize hS : ({ s2 with heap := s2.heap.push { cls := .type "slice", data := .fields #[.none, .none, .int (-1) t] } } : Shared) = s3 at I3 ⊢
  refine ⟨.ref s3.heap.objs.size, _, I3.laid (t' := s3.toks) (o := .lst xs.reverse) (fun b ob q => Heap.get?_push_of_some _ q) (Nat.le_refl _) ?_, rfl, q _ (I3.hok.fresh (Nat.le_refl _))⟩
  refine ⟨by rw [List.length_reverse]; exact hz, its.reverse, 0, r.reverse, ?_⟩
  simpa using Heap.get?_push_size s3.heap rfl
end
end L2
/-! OWN RULES: == and != of data of any depth -/
namespace L2
open PySem PySem.Spec PyProof.Rows

inductive Dt where
  | non | bl (b : Bool) | int (i : Int) | str (x : Str) | tup (ds : List Dt) | lst (ds : List Dt)

mutual
def HasD (K : PySem.W.Frag) (H : Hp) : Dt → V → Prop
  | .non, v => v = .non
  | .bl b, v => v = .bl b
  | .int i, v => v = .int i
  | .str x, v => v = .str x
  | .tup ds, v => ∃ a xs, v = .ref a ∧ SqT K H a xs ∧ HasDs K H ds xs
  | .lst ds, v => ∃ a xs, v = .ref a ∧ SqL K H a xs ∧ HasDs K H ds xs
def HasDs (K : PySem.W.Frag) (H : Hp) : List Dt → List V → Prop
  | [], xs => xs = []
  | d :: ds, xs => ∃ x r, xs = x :: r ∧ HasD K H d x ∧ HasDs K H ds r
end
mutual
def eqD : Dt → Dt → Bool
  | .non, .non => true
  | .bl a, .bl b => a == b
  | .bl a, .int b => (if a then 1 else 0) == b
  | .int a, .bl b => a == (if b then 1 else 0)
  | .int a, .int b => a == b
  | .str a, .str b => a == b
  | .tup as, .tup bs => eqDs as bs
  | .lst as, .lst bs => eqDs as bs
  | _, _ => false
def eqDs : List Dt → List Dt → Bool
  | [], [] => true
  | a :: as, b :: bs => eqD a b && eqDs as bs
  | _, _ => false
end
mutual
def depD : Dt → Nat
  | .tup ds => depDs ds + 1
  | .lst ds => depDs ds + 1
  | _ => 0
def depDs : List Dt → Nat
  | [] => 0
  | d :: ds => max (depD d) (depDs ds)
end

def eqAtI (ds es : List Dt) (j : Nat) : Bool := match ds[j]?, es[j]? with
  | some a, some b => eqD a b
  | _, _ => true
theorem range_eqDs : ∀ (ds es : List Dt), ((List.range (min ds.length es.length)).all (eqAtI ds es) && (ds.length == es.length)) = eqDs ds es
  | [], [] => by simp [eqDs]
  | [], e :: es => by simp [eqDs]
  | d :: ds, [] => by simp [eqDs]
  | d :: ds, e :: es => by
    have ih := range_eqDs ds es
    have e1 : min (d :: ds).length (e :: es).length = min ds.length es.length + 1 := by simp only [List.length_cons]; omega
    have e2 : ((d :: ds).length == (e :: es).length) = (ds.length == es.length) := by simp
    have e3 : (eqAtI (d :: ds) (e :: es) ∘ Nat.succ) = eqAtI ds es := by funext j; simp [eqAtI, Function.comp]
    have e4 : eqAtI (d :: ds) (e :: es) 0 = eqD d e := by simp [eqAtI]
    rw [e1, e2, List.range_succ_eq_map, List.all_cons, List.all_map, e3, e4, Bool.and_assoc, ih, eqDs]
theorem HasDs.length {K : PySem.W.Frag} {H : Hp} : ∀ {ds : List Dt} {xs : List V}, HasDs K H ds xs → ds.length = xs.length
  | [], xs, h => by
    rw [HasDs] at h
    rw [h]
    rfl
  | d :: ds, xs, h => by
    rw [HasDs] at h
    obtain ⟨x, r, rfl, _, h2⟩ := h
    rw [List.length_cons, List.length_cons, HasDs.length h2]
theorem HasDs.get {K : PySem.W.Frag} {H : Hp} : ∀ {ds : List Dt} {xs : List V} {j : Nat} {x : V}, HasDs K H ds xs → xs[j]? = some x → ∃ d, ds[j]? = some d ∧ HasD K H d x
  | [], xs, j, x, h, e => by
    rw [HasDs] at h
    subst h
    simp at e
  | d :: ds, xs, j, x, h, e => by
    rw [HasDs] at h
    obtain ⟨y, r, rfl, h1, h2⟩ := h
    cases j with
    | zero =>
      have e' : y = x := by simpa using e
      subst e'
      exact ⟨d, by simp, h1⟩
    | succ j =>
      obtain ⟨d', q1, q2⟩ := HasDs.get (j := j) h2 (by simpa using e)
      exact ⟨d', by simpa using q1, q2⟩
theorem dep_get : ∀ {ds : List Dt} {j : Nat} {d : Dt}, ds[j]? = some d → depD d ≤ depDs ds
  | [], j, d, e => by simp at e
  | c :: ds, j, d, e => by
    rw [depDs]
    cases j with
    | zero =>
      have e' : c = d := by simpa using e
      subst e'
      exact Nat.le_max_left _ _
    | succ j => exact Nat.le_trans (dep_get (j := j) (by simpa using e)) (Nat.le_max_right _ _)

section
variable {X : Cx} {pins : List (Addr × Obj)} {σ : St} {H : Hp} {s : Shared}
theorem list_not_tuple (I : Inv X pins σ H s) {a : Addr} {xs ys : List V} (h : SqL X.K H a xs) (h' : SqT X.K H a ys) : False := by
  obtain ⟨_, _, p, _⟩ := I.list h
  obtain ⟨_, _, q, _⟩ := I.tuple h'
  obtain ⟨o, e, c, _⟩ := p.isList
  obtain ⟨o', e', c', _⟩ := q
  rw [e] at e'
  cases e'
  rw [c] at c'
  exact absurd c' (by decide)
mutual
theorem hasD_same (I : Inv X pins σ H s) : ∀ (d e : Dt) (x : V), HasD X.K H d x → HasD X.K H e x → eqD d e = true
  | .non, e, x, h, k => by
    rw [HasD] at h
    subst h
    cases e <;> rw [HasD] at k <;> first | (obtain ⟨_, _, z, _⟩ := k; cases z) | rfl | cases k
  | .bl b, e, x, h, k => by
    rw [HasD] at h
    subst h
    cases e <;> rw [HasD] at k <;> first | (obtain ⟨_, _, z, _⟩ := k; cases z) | (cases k; simp [eqD]; done) | cases k
  | .int b, e, x, h, k => by
    rw [HasD] at h
    subst h
    cases e <;> rw [HasD] at k <;> first | (obtain ⟨_, _, z, _⟩ := k; cases z) | (cases k; simp [eqD]; done) | cases k
  | .str b, e, x, h, k => by
    rw [HasD] at h
    subst h
    cases e <;> rw [HasD] at k <;> first | (obtain ⟨_, _, z, _⟩ := k; cases z) | (cases k; simp [eqD]; done) | cases k
  | .tup ds, e, x, h, k => by
    rw [HasD] at h
    obtain ⟨a, xs, rfl, h1, h2⟩ := h
    cases e with
    | tup es =>
      rw [HasD] at k
      obtain ⟨b, ys, z, k1, k2⟩ := k
      cases z
      have e := I.tuple_inj k1 h1
      subst e
      rw [eqD]
      exact hasDs_same I ds es _ h2 k2
    | lst es =>
      rw [HasD] at k
      obtain ⟨b, ys, z, k1, k2⟩ := k
      cases z
      exact (list_not_tuple I k1 h1).elim
    | non => rw [HasD] at k; cases k
    | bl b => rw [HasD] at k; cases k
    | int b => rw [HasD] at k; cases k
    | str b => rw [HasD] at k; cases k
  | .lst ds, e, x, h, k => by
    rw [HasD] at h
    obtain ⟨a, xs, rfl, h1, h2⟩ := h
    cases e with
    | lst es =>
      rw [HasD] at k
      obtain ⟨b, ys, z, k1, k2⟩ := k
      cases z
      have e := I.list_inj k1 h1
      subst e
      rw [eqD]
      exact hasDs_same I ds es _ h2 k2
    | tup es =>
      rw [HasD] at k
      obtain ⟨b, ys, z, k1, k2⟩ := k
      cases z
      exact (list_not_tuple I h1 k1).elim
    | non => rw [HasD] at k; cases k
    | bl b => rw [HasD] at k; cases k
    | int b => rw [HasD] at k; cases k
    | str b => rw [HasD] at k; cases k
theorem hasDs_same (I : Inv X pins σ H s) : ∀ (ds es : List Dt) (xs : List V), HasDs X.K H ds xs → HasDs X.K H es xs → eqDs ds es = true
  | [], es, xs, h, k => by
    rw [HasDs] at h
    subst h
    cases es with
    | nil => rw [eqDs]
    | cons e es =>
      rw [HasDs] at k
      obtain ⟨_, _, z, _⟩ := k
      cases z
  | d :: ds, es, xs, h, k => by
    rw [HasDs] at h
    obtain ⟨x, r, rfl, h1, h2⟩ := h
    cases es with
    | nil => rw [HasDs] at k; cases k
    | cons e es =>
      rw [HasDs] at k
      obtain ⟨y, r', z, k1, k2⟩ := k
      cases z
      rw [eqDs, hasD_same I d e _ h1 k1, hasDs_same I ds es _ h2 k2]
      rfl
end

/-- the items of two sequences, one by one -/
theorem items_eqAt {A : Around} {ds es : List Dt} {xs ys : List V} {is js : List Value} (hd : HasDs X.K H ds xs) (he : HasDs X.K H es ys) (vi : Vals xs is) (vj : Vals ys js)
    (rec : ∀ d e x y u v, d ∈ ds → depD d ≤ depDs ds → HasD X.K H d x → HasD X.K H e y → RelV x u → RelV y v → SeqAt.EqAt A s u v (eqD d e)) :
    ∀ j (h1 : j < is.toArray.size) (h2 : j < js.toArray.size), SeqAt.EqAt A s is.toArray[j] js.toArray[j] (eqAtI ds es j) := fun j h1 h2 => by
  have h1' : j < is.length := by simpa using h1
  have h2' : j < js.length := by simpa using h2
  have lx : j < xs.length := by rw [vi.length]; exact h1'
  have ly : j < ys.length := by rw [vj.length]; exact h2'
  obtain ⟨u, eu, ru⟩ := vi.get (i := j) (x := xs[j]) (by simp [lx])
  obtain ⟨v, ev, rv⟩ := vj.get (i := j) (x := ys[j]) (by simp [ly])
  obtain ⟨d, ed, kd⟩ := hd.get (j := j) (x := xs[j]) (by simp [lx])
  obtain ⟨e, ee, ke⟩ := he.get (j := j) (x := ys[j]) (by simp [ly])
  have e1 : is.toArray[j] = u := by
    rw [List.getElem?_eq_getElem h1'] at eu
    simpa using eu
  have e2 : js.toArray[j] = v := by
    rw [List.getElem?_eq_getElem h2'] at ev
    simpa using ev
  have e3 : eqAtI ds es j = eqD d e := by simp [eqAtI, ed, ee]
  rw [e1, e2, e3]
  exact rec d e _ _ u v (List.mem_of_getElem? ed) (dep_get ed) kd ke ru rv
theorem same_len {ds es : List Dt} {xs ys : List V} {is js : List Value} (hd : HasDs X.K H ds xs) (he : HasDs X.K H es ys) (vi : Vals xs is) (vj : Vals ys js) : ds.length = is.toArray.size ∧ es.length = js.toArray.size := by
  rw [hd.length, he.length, vi.length, vj.length]
  simp
theorem lists_all {ds es : List Dt} (h : ds.length = es.length) : (List.range ds.length).all (eqAtI ds es) = eqDs ds es := by
  have q := range_eqDs ds es
  rw [← h, Nat.min_self, beq_self_eq_true, Bool.and_true] at q
  exact q
theorem lists_no {ds es : List Dt} (h : ds.length ≠ es.length) : eqDs ds es = false := by
  have q := range_eqDs ds es
  rw [show (ds.length == es.length) = false from by simpa using h, Bool.and_false] at q
  exact q.symm

theorem eqAt_D (I : Inv X pins σ H s) : ∀ (n : Nat) (d e : Dt) (x y : V) (u v : Value) (A : Around), depD d ≤ n → A.units + n < cLine → HasD X.K H d x → HasD X.K H e y → RelV x u → RelV y v → SeqAt.EqAt A s u v (eqD d e) := by
  intro n
  induction n with
  | zero =>
    intro d e x y u v A hn hu hd he ru rv
    have hu' : A.units < cLine := by omega
    cases d with
    | tup ds => rw [depD] at hn; omega
    | lst ds => rw [depD] at hn; omega
    | non =>
      rw [HasD] at hd; subst hd; cases ru
      cases e <;> rw [HasD] at he
      case non => subst he; cases rv; exact SeqAt.EqAt.same _
      case bl b => subst he; cases rv; exact SeqAt.EqAt.none_bool b
      case int b => subst he; obtain ⟨t, rfl⟩ := rv; exact SeqAt.EqAt.none_int b t
      case str b => subst he; obtain ⟨t, rfl⟩ := rv; exact SeqAt.EqAt.none_str b t
      case tup es => obtain ⟨b, ys, rfl, k1, k2⟩ := he; cases rv; obtain ⟨js, vj, pj, _⟩ := I.tuple k1; exact SeqAt.EqAt.none_tuple pj hu'
      case lst es => obtain ⟨b, ys, rfl, k1, k2⟩ := he; cases rv; obtain ⟨js, vj, pj, _⟩ := I.list k1; exact SeqAt.EqAt.none_list pj.isList hu'
    | bl a =>
      rw [HasD] at hd; subst hd; cases ru
      cases e <;> rw [HasD] at he
      case non => subst he; cases rv; exact SeqAt.EqAt.bool_none a
      case bl b => subst he; cases rv; exact SeqAt.EqAt.bool_bool a b
      case int b => subst he; obtain ⟨t, rfl⟩ := rv; exact SeqAt.EqAt.bool_int a b t
      case str b => subst he; obtain ⟨t, rfl⟩ := rv; exact SeqAt.EqAt.bool_str a b t
      case tup es => obtain ⟨b, ys, rfl, k1, k2⟩ := he; cases rv; obtain ⟨js, vj, pj, _⟩ := I.tuple k1; exact SeqAt.EqAt.bool_tuple a pj hu'
      case lst es => obtain ⟨b, ys, rfl, k1, k2⟩ := he; cases rv; obtain ⟨js, vj, pj, _⟩ := I.list k1; exact SeqAt.EqAt.bool_list a pj.isList hu'
    | int a =>
      rw [HasD] at hd; subst hd; obtain ⟨t0, rfl⟩ := ru
      cases e <;> rw [HasD] at he
      case non => subst he; cases rv; exact SeqAt.EqAt.int_none a t0
      case bl b => subst he; cases rv; exact SeqAt.EqAt.int_bool a t0 b
      case int b => subst he; obtain ⟨t, rfl⟩ := rv; exact SeqAt.EqAt.int_int a t0 b t
      case str b => subst he; obtain ⟨t, rfl⟩ := rv; exact SeqAt.EqAt.int_str a t0 b t
      case tup es => obtain ⟨b, ys, rfl, k1, k2⟩ := he; cases rv; obtain ⟨js, vj, pj, _⟩ := I.tuple k1; exact SeqAt.EqAt.int_tuple a t0 pj hu'
      case lst es => obtain ⟨b, ys, rfl, k1, k2⟩ := he; cases rv; obtain ⟨js, vj, pj, _⟩ := I.list k1; exact SeqAt.EqAt.int_list a t0 pj.isList hu'
    | str a =>
      rw [HasD] at hd; subst hd; obtain ⟨t0, rfl⟩ := ru
      cases e <;> rw [HasD] at he
      case non => subst he; cases rv; exact SeqAt.EqAt.str_none a t0
      case bl b => subst he; cases rv; exact SeqAt.EqAt.str_bool a t0 b
      case int b => subst he; obtain ⟨t, rfl⟩ := rv; exact SeqAt.EqAt.str_int a t0 b t
      case str b => subst he; obtain ⟨t, rfl⟩ := rv; exact SeqAt.EqAt.str_str a t0 b t
      case tup es => obtain ⟨b, ys, rfl, k1, k2⟩ := he; cases rv; obtain ⟨js, vj, pj, _⟩ := I.tuple k1; exact SeqAt.EqAt.str_tuple a t0 pj hu'
      case lst es => obtain ⟨b, ys, rfl, k1, k2⟩ := he; cases rv; obtain ⟨js, vj, pj, _⟩ := I.list k1; exact SeqAt.EqAt.str_list a t0 pj.isList hu'
  | succ n ih =>
    intro d e x y u v A hn hu hd he ru rv
    have hu' : A.units < cLine := by omega
    have hu1 : A.in1.units + n < cLine := by rw [units_in1]; omega
    cases d with
    | tup ds =>
      rw [depD] at hn
      have hd0 := hd
      rw [HasD] at hd
      obtain ⟨a, xs, rfl, k1, k2⟩ := hd
      cases ru
      obtain ⟨is, vi, pi, _⟩ := I.tuple k1
      cases e with
      | tup es =>
        have he0 := he
        rw [HasD] at he
        obtain ⟨b, ys, rfl, l1, l2⟩ := he
        cases rv
        obtain ⟨js, vj, pj, _⟩ := I.tuple l1
        by_cases hab : a = b
        · subst hab
          rw [hasD_same I _ _ _ hd0 he0]
          exact SeqAt.EqAt.same _
        · have q := SeqAt.RcAt.tuples (A := A) pi pj hu' (items_eqAt k2 l2 vi vj fun d e x y u v _ hdd => ih d e x y u v A.in1 (by omega) hu1)
          obtain ⟨z1, z2⟩ := same_len k2 l2 vi vj
          rw [← z1, ← z2, range_eqDs] at q
          rw [eqD]
          exact SeqAt.EqAt.of_refs hab q
      | lst es => rw [HasD] at he; obtain ⟨b, ys, rfl, l1, l2⟩ := he; cases rv; obtain ⟨js, vj, pj, _⟩ := I.list l1; exact SeqAt.EqAt.tuple_list pi pj.isList hu'
      | non => rw [HasD] at he; subst he; cases rv; exact SeqAt.EqAt.tuple_none pi hu'
      | bl b => rw [HasD] at he; subst he; cases rv; exact SeqAt.EqAt.tuple_bool b pi hu'
      | int b => rw [HasD] at he; subst he; obtain ⟨t, rfl⟩ := rv; exact SeqAt.EqAt.tuple_int b t pi hu'
      | str b => rw [HasD] at he; subst he; obtain ⟨t, rfl⟩ := rv; exact SeqAt.EqAt.tuple_str b t pi hu'
    | lst ds =>
      rw [depD] at hn
      have hd0 := hd
      rw [HasD] at hd
      obtain ⟨a, xs, rfl, k1, k2⟩ := hd
      cases ru
      obtain ⟨is, vi, pi, _⟩ := I.list k1
      cases e with
      | lst es =>
        have he0 := he
        rw [HasD] at he
        obtain ⟨b, ys, rfl, l1, l2⟩ := he
        cases rv
        obtain ⟨js, vj, pj, _⟩ := I.list l1
        obtain ⟨z1, z2⟩ := same_len k2 l2 vi vj
        by_cases hab : a = b
        · subst hab
          rw [hasD_same I _ _ _ hd0 he0]
          exact SeqAt.EqAt.same _
        · rw [eqD]
          by_cases hsz : ds.length = es.length
          · have q := SeqAt.RcAt.lists (A := A) pi.isList pj.isList (by omega) hu' (items_eqAt k2 l2 vi vj fun d e x y u v _ hdd => ih d e x y u v A.in1 (by omega) hu1)
            rw [← z1, lists_all hsz] at q
            exact SeqAt.EqAt.of_refs hab q
          · rw [lists_no hsz]
            exact SeqAt.EqAt.of_refs hab (SeqAt.RcAt.lists_lengths pi.isList pj.isList (by rw [← z1, ← z2]; simpa using hsz) hu')
      | tup es => rw [HasD] at he; obtain ⟨b, ys, rfl, l1, l2⟩ := he; cases rv; obtain ⟨js, vj, pj, _⟩ := I.tuple l1; exact SeqAt.EqAt.list_tuple pi.isList pj hu'
      | non => rw [HasD] at he; subst he; cases rv; exact SeqAt.EqAt.list_none pi.isList hu'
      | bl b => rw [HasD] at he; subst he; cases rv; exact SeqAt.EqAt.list_bool b pi.isList hu'
      | int b => rw [HasD] at he; subst he; obtain ⟨t, rfl⟩ := rv; exact SeqAt.EqAt.list_int b t pi.isList hu'
      | str b => rw [HasD] at he; subst he; obtain ⟨t, rfl⟩ := rv; exact SeqAt.EqAt.list_str b t pi.isList hu'
    | non => exact ih _ _ _ _ _ _ _ (Nat.zero_le n) (by omega) hd he ru rv
    | bl b => exact ih _ _ _ _ _ _ _ (Nat.zero_le n) (by omega) hd he ru rv
    | int b => exact ih _ _ _ _ _ _ _ (Nat.zero_le n) (by omega) hd he ru rv
    | str b => exact ih _ _ _ _ _ _ _ (Nat.zero_le n) (by omega) hd he ru rv
end
end L2
namespace L2
open PySem PySem.Spec PyProof.Rows
section
variable {X : Cx} {pins : List (Addr × Obj)} {σ : St} {H : Hp} {s : Shared}
theorem rcAt_D (I : Inv X pins σ H s) {n : Nat} {d e : Dt} {x y : V} {u v : Value} {A : Around} (hn : depD d ≤ n) (hu : A.units + n < cLine) (hd : HasD X.K H d x) (he : HasD X.K H e y) (ru : RelV x u) (rv : RelV y v) : SeqAt.RcAt A s u v (eqD d e) := by
  have hu' : A.units < cLine := by omega
  cases d with
  | non =>
    rw [HasD] at hd; subst hd; cases ru
    cases e <;> rw [HasD] at he
    case non => subst he; cases rv; exact SeqAt.RcAt.none_none
    case bl b => subst he; cases rv; exact SeqAt.RcAt.none_bool b
    case int b => subst he; obtain ⟨t, rfl⟩ := rv; exact SeqAt.RcAt.none_int b t
    case str b => subst he; obtain ⟨t, rfl⟩ := rv; exact SeqAt.RcAt.none_str b t
    case tup es => obtain ⟨b, ys, rfl, k1, k2⟩ := he; cases rv; obtain ⟨js, vj, pj, _⟩ := I.tuple k1; exact SeqAt.RcAt.none_tuple pj hu'
    case lst es => obtain ⟨b, ys, rfl, k1, k2⟩ := he; cases rv; obtain ⟨js, vj, pj, _⟩ := I.list k1; exact SeqAt.RcAt.none_list pj.isList hu'
  | bl a =>
    rw [HasD] at hd; subst hd; cases ru
    cases e <;> rw [HasD] at he
    case non => subst he; cases rv; exact SeqAt.RcAt.bool_none a
    case bl b => subst he; cases rv; exact SeqAt.RcAt.bool_bool a b
    case int b => subst he; obtain ⟨t, rfl⟩ := rv; exact SeqAt.RcAt.bool_int a b t
    case str b => subst he; obtain ⟨t, rfl⟩ := rv; exact SeqAt.RcAt.bool_str a b t
    case tup es => obtain ⟨b, ys, rfl, k1, k2⟩ := he; cases rv; obtain ⟨js, vj, pj, _⟩ := I.tuple k1; exact SeqAt.RcAt.bool_tuple a pj hu'
    case lst es => obtain ⟨b, ys, rfl, k1, k2⟩ := he; cases rv; obtain ⟨js, vj, pj, _⟩ := I.list k1; exact SeqAt.RcAt.bool_list a pj.isList hu'
  | int a =>
    rw [HasD] at hd; subst hd; obtain ⟨t0, rfl⟩ := ru
    cases e <;> rw [HasD] at he
    case non => subst he; cases rv; exact SeqAt.RcAt.int_none a t0
    case bl b => subst he; cases rv; exact SeqAt.RcAt.int_bool a t0 b
    case int b => subst he; obtain ⟨t, rfl⟩ := rv; exact SeqAt.RcAt.int_int a t0 b t
    case str b => subst he; obtain ⟨t, rfl⟩ := rv; exact SeqAt.RcAt.int_str a t0 b t
    case tup es => obtain ⟨b, ys, rfl, k1, k2⟩ := he; cases rv; obtain ⟨js, vj, pj, _⟩ := I.tuple k1; exact SeqAt.RcAt.int_tuple a t0 pj hu'
    case lst es => obtain ⟨b, ys, rfl, k1, k2⟩ := he; cases rv; obtain ⟨js, vj, pj, _⟩ := I.list k1; exact SeqAt.RcAt.int_list a t0 pj.isList hu'
  | str a =>
    rw [HasD] at hd; subst hd; obtain ⟨t0, rfl⟩ := ru
    cases e <;> rw [HasD] at he
    case non => subst he; cases rv; exact SeqAt.RcAt.str_none a t0
    case bl b => subst he; cases rv; exact SeqAt.RcAt.str_bool a t0 b
    case int b => subst he; obtain ⟨t, rfl⟩ := rv; exact SeqAt.RcAt.str_int a t0 b t
    case str b => subst he; obtain ⟨t, rfl⟩ := rv; exact SeqAt.RcAt.str_str a t0 b t
    case tup es => obtain ⟨b, ys, rfl, k1, k2⟩ := he; cases rv; obtain ⟨js, vj, pj, _⟩ := I.tuple k1; exact SeqAt.RcAt.str_tuple a t0 pj hu'
    case lst es => obtain ⟨b, ys, rfl, k1, k2⟩ := he; cases rv; obtain ⟨js, vj, pj, _⟩ := I.list k1; exact SeqAt.RcAt.str_list a t0 pj.isList hu'
  | tup ds =>
    rw [depD] at hn
    have hu1 : A.in1.units + (n - 1) < cLine := by rw [units_in1]; omega
    rw [HasD] at hd
    obtain ⟨a, xs, rfl, k1, k2⟩ := hd
    cases ru
    obtain ⟨is, vi, pi, _⟩ := I.tuple k1
    cases e with
    | tup es =>
      rw [HasD] at he
      obtain ⟨b, ys, rfl, l1, l2⟩ := he
      cases rv
      obtain ⟨js, vj, pj, _⟩ := I.tuple l1
      have q := SeqAt.RcAt.tuples (A := A) pi pj hu' (items_eqAt k2 l2 vi vj fun d e x y u v _ hdd => eqAt_D I (n - 1) d e x y u v A.in1 (by omega) hu1)
      obtain ⟨z1, z2⟩ := same_len k2 l2 vi vj
      rw [← z1, ← z2, range_eqDs] at q
      rw [eqD]
      exact q
    | lst es => rw [HasD] at he; obtain ⟨b, ys, rfl, l1, l2⟩ := he; cases rv; obtain ⟨js, vj, pj, _⟩ := I.list l1; exact SeqAt.RcAt.tuple_list pi pj.isList hu'
    | non => rw [HasD] at he; subst he; cases rv; exact SeqAt.RcAt.tuple_none pi hu'
    | bl b => rw [HasD] at he; subst he; cases rv; exact SeqAt.RcAt.tuple_bool b pi hu'
    | int b => rw [HasD] at he; subst he; obtain ⟨t, rfl⟩ := rv; exact SeqAt.RcAt.tuple_int b t pi hu'
    | str b => rw [HasD] at he; subst he; obtain ⟨t, rfl⟩ := rv; exact SeqAt.RcAt.tuple_str b t pi hu'
  | lst ds =>
    rw [depD] at hn
    have hu1 : A.in1.units + (n - 1) < cLine := by rw [units_in1]; omega
    rw [HasD] at hd
    obtain ⟨a, xs, rfl, k1, k2⟩ := hd
    cases ru
    obtain ⟨is, vi, pi, _⟩ := I.list k1
    cases e with
    | lst es =>
      rw [HasD] at he
      obtain ⟨b, ys, rfl, l1, l2⟩ := he
      cases rv
      obtain ⟨js, vj, pj, _⟩ := I.list l1
      obtain ⟨z1, z2⟩ := same_len k2 l2 vi vj
      rw [eqD]
      by_cases hsz : ds.length = es.length
      · have q := SeqAt.RcAt.lists (A := A) pi.isList pj.isList (by omega) hu' (items_eqAt k2 l2 vi vj fun d e x y u v _ hdd => eqAt_D I (n - 1) d e x y u v A.in1 (by omega) hu1)
        rw [← z1, lists_all hsz] at q
        exact q
      · rw [lists_no hsz]
        exact SeqAt.RcAt.lists_lengths pi.isList pj.isList (by rw [← z1, ← z2]; simpa using hsz) hu'
    | tup es => rw [HasD] at he; obtain ⟨b, ys, rfl, l1, l2⟩ := he; cases rv; obtain ⟨js, vj, pj, _⟩ := I.tuple l1; exact SeqAt.RcAt.list_tuple pi.isList pj hu'
    | non => rw [HasD] at he; subst he; cases rv; exact SeqAt.RcAt.list_none pi.isList hu'
    | bl b => rw [HasD] at he; subst he; cases rv; exact SeqAt.RcAt.list_bool b pi.isList hu'
    | int b => rw [HasD] at he; subst he; obtain ⟨t, rfl⟩ := rv; exact SeqAt.RcAt.list_int b t pi.isList hu'
    | str b => rw [HasD] at he; subst he; obtain ⟨t, rfl⟩ := rv; exact SeqAt.RcAt.list_str b t pi.isList hu'
theorem rcNeAt_D (I : Inv X pins σ H s) {n : Nat} {d e : Dt} {x y : V} {u v : Value} {A : Around} (hn : depD d ≤ n) (hu : A.units + n < cLine) (hd : HasD X.K H d x) (he : HasD X.K H e y) (ru : RelV x u) (rv : RelV y v) : SeqAt.RcNeAt A s u v (!(eqD d e)) := by
  have hu' : A.units < cLine := by omega
  cases d with
  | non =>
    rw [HasD] at hd; subst hd; cases ru
    cases e <;> rw [HasD] at he
    case non => subst he; cases rv; exact SeqAt.RcNeAt.none_none
    case bl b => subst he; cases rv; exact SeqAt.RcNeAt.none_bool b
    case int b => subst he; obtain ⟨t, rfl⟩ := rv; exact SeqAt.RcNeAt.none_int b t
    case str b => subst he; obtain ⟨t, rfl⟩ := rv; exact SeqAt.RcNeAt.none_str b t
    case tup es => obtain ⟨b, ys, rfl, k1, k2⟩ := he; cases rv; obtain ⟨js, vj, pj, _⟩ := I.tuple k1; exact SeqAt.RcNeAt.none_tuple pj hu'
    case lst es => obtain ⟨b, ys, rfl, k1, k2⟩ := he; cases rv; obtain ⟨js, vj, pj, _⟩ := I.list k1; exact SeqAt.RcNeAt.none_list pj.isList hu'
  | bl a =>
    rw [HasD] at hd; subst hd; cases ru
    cases e <;> rw [HasD] at he
    case non => subst he; cases rv; exact SeqAt.RcNeAt.bool_none a
    case bl b => subst he; cases rv; exact SeqAt.RcNeAt.bool_bool a b
    case int b => subst he; obtain ⟨t, rfl⟩ := rv; exact SeqAt.RcNeAt.bool_int a b t
    case str b => subst he; obtain ⟨t, rfl⟩ := rv; exact SeqAt.RcNeAt.bool_str a b t
    case tup es => obtain ⟨b, ys, rfl, k1, k2⟩ := he; cases rv; obtain ⟨js, vj, pj, _⟩ := I.tuple k1; exact SeqAt.RcNeAt.bool_tuple a pj hu'
    case lst es => obtain ⟨b, ys, rfl, k1, k2⟩ := he; cases rv; obtain ⟨js, vj, pj, _⟩ := I.list k1; exact SeqAt.RcNeAt.bool_list a pj.isList hu'
  | int a =>
    rw [HasD] at hd; subst hd; obtain ⟨t0, rfl⟩ := ru
    cases e <;> rw [HasD] at he
    case non => subst he; cases rv; exact SeqAt.RcNeAt.int_none a t0
    case bl b => subst he; cases rv; exact SeqAt.RcNeAt.int_bool a t0 b
    case int b => subst he; obtain ⟨t, rfl⟩ := rv; exact SeqAt.RcNeAt.int_int a t0 b t
    case str b => subst he; obtain ⟨t, rfl⟩ := rv; exact SeqAt.RcNeAt.int_str a t0 b t
    case tup es => obtain ⟨b, ys, rfl, k1, k2⟩ := he; cases rv; obtain ⟨js, vj, pj, _⟩ := I.tuple k1; exact SeqAt.RcNeAt.int_tuple a t0 pj hu'
    case lst es => obtain ⟨b, ys, rfl, k1, k2⟩ := he; cases rv; obtain ⟨js, vj, pj, _⟩ := I.list k1; exact SeqAt.RcNeAt.int_list a t0 pj.isList hu'
  | str a =>
    rw [HasD] at hd; subst hd; obtain ⟨t0, rfl⟩ := ru
    cases e <;> rw [HasD] at he
    case non => subst he; cases rv; exact SeqAt.RcNeAt.str_none a t0
    case bl b => subst he; cases rv; exact SeqAt.RcNeAt.str_bool a t0 b
    case int b => subst he; obtain ⟨t, rfl⟩ := rv; exact SeqAt.RcNeAt.str_int a t0 b t
    case str b => subst he; obtain ⟨t, rfl⟩ := rv; exact SeqAt.RcNeAt.str_str a t0 b t
    case tup es => obtain ⟨b, ys, rfl, k1, k2⟩ := he; cases rv; obtain ⟨js, vj, pj, _⟩ := I.tuple k1; exact SeqAt.RcNeAt.str_tuple a t0 pj hu'
    case lst es => obtain ⟨b, ys, rfl, k1, k2⟩ := he; cases rv; obtain ⟨js, vj, pj, _⟩ := I.list k1; exact SeqAt.RcNeAt.str_list a t0 pj.isList hu'
  | tup ds =>
    rw [depD] at hn
    have hu1 : A.in1.units + (n - 1) < cLine := by rw [units_in1]; omega
    rw [HasD] at hd
    obtain ⟨a, xs, rfl, k1, k2⟩ := hd
    cases ru
    obtain ⟨is, vi, pi, _⟩ := I.tuple k1
    cases e with
    | tup es =>
      rw [HasD] at he
      obtain ⟨b, ys, rfl, l1, l2⟩ := he
      cases rv
      obtain ⟨js, vj, pj, _⟩ := I.tuple l1
      have q := SeqAt.RcNeAt.tuples (A := A) pi pj hu' (items_eqAt k2 l2 vi vj fun d e x y u v _ hdd => eqAt_D I (n - 1) d e x y u v A.in1 (by omega) hu1)
      obtain ⟨z1, z2⟩ := same_len k2 l2 vi vj
      rw [← z1, ← z2, range_eqDs] at q
      rw [eqD]
      exact q
    | lst es => rw [HasD] at he; obtain ⟨b, ys, rfl, l1, l2⟩ := he; cases rv; obtain ⟨js, vj, pj, _⟩ := I.list l1; exact SeqAt.RcNeAt.tuple_list pi pj.isList hu'
    | non => rw [HasD] at he; subst he; cases rv; exact SeqAt.RcNeAt.tuple_none pi hu'
    | bl b => rw [HasD] at he; subst he; cases rv; exact SeqAt.RcNeAt.tuple_bool b pi hu'
    | int b => rw [HasD] at he; subst he; obtain ⟨t, rfl⟩ := rv; exact SeqAt.RcNeAt.tuple_int b t pi hu'
    | str b => rw [HasD] at he; subst he; obtain ⟨t, rfl⟩ := rv; exact SeqAt.RcNeAt.tuple_str b t pi hu'
  | lst ds =>
    rw [depD] at hn
    have hu1 : A.in1.units + (n - 1) < cLine := by rw [units_in1]; omega
    rw [HasD] at hd
    obtain ⟨a, xs, rfl, k1, k2⟩ := hd
    cases ru
    obtain ⟨is, vi, pi, _⟩ := I.list k1
    cases e with
    | lst es =>
      rw [HasD] at he
      obtain ⟨b, ys, rfl, l1, l2⟩ := he
      cases rv
      obtain ⟨js, vj, pj, _⟩ := I.list l1
      obtain ⟨z1, z2⟩ := same_len k2 l2 vi vj
      rw [eqD]
      by_cases hsz : ds.length = es.length
      · have q := SeqAt.RcNeAt.lists (A := A) pi.isList pj.isList (by omega) hu' (items_eqAt k2 l2 vi vj fun d e x y u v _ hdd => eqAt_D I (n - 1) d e x y u v A.in1 (by omega) hu1)
        rw [← z1, lists_all hsz] at q
        exact q
      · rw [lists_no hsz]
        exact SeqAt.RcNeAt.lists_lengths pi.isList pj.isList (by rw [← z1, ← z2]; simpa using hsz) hu'
    | tup es => rw [HasD] at he; obtain ⟨b, ys, rfl, l1, l2⟩ := he; cases rv; obtain ⟨js, vj, pj, _⟩ := I.tuple l1; exact SeqAt.RcNeAt.list_tuple pi.isList pj hu'
    | non => rw [HasD] at he; subst he; cases rv; exact SeqAt.RcNeAt.list_none pi.isList hu'
    | bl b => rw [HasD] at he; subst he; cases rv; exact SeqAt.RcNeAt.list_bool b pi.isList hu'
    | int b => rw [HasD] at he; subst he; obtain ⟨t, rfl⟩ := rv; exact SeqAt.RcNeAt.list_int b t pi.isList hu'
    | str b => rw [HasD] at he; subst he; obtain ⟨t, rfl⟩ := rv; exact SeqAt.RcNeAt.list_str b t pi.isList hu'
end
/-- == and != by data (depth below 60) -/
def rEqD (K : PySem.W.Frag) : R2 := fun x y H Q => ∃ d e, HasD K H d x ∧ HasD K H e y ∧ depD d ≤ 60 ∧ Q (.bl (eqD d e)) H
def rNeD (K : PySem.W.Frag) : R2 := fun x y H Q => ∃ d e, HasD K H d x ∧ HasD K H e y ∧ depD d ≤ 60 ∧ Q (.bl (!eqD d e)) H
section
variable {X : Cx}
theorem op_eqD (hu : X.A.units + 64 < cLine) : OpR X (compareOp .Eq) (rEqD X.K) := by
  intro pins s σ H x y v u Q I rx ry h
  obtain ⟨d, e, hd, he, hn, q⟩ := h
  exact rcAt_D I hn (by omega) hd he rx ry _ _ _ _ ⟨.bl _, H, I, rfl, q⟩
theorem op_neD (hu : X.A.units + 64 < cLine) : OpR X (compareOp .NotEq) (rNeD X.K) := by
  intro pins s σ H x y v u Q I rx ry h
  obtain ⟨d, e, hd, he, hn, q⟩ := h
  exact rcNeAt_D I hn (by omega) hd he rx ry _ _ _ _ ⟨.bl _, H, I, rfl, q⟩
theorem op_isnotB : OpR X (compareOp .IsNot) (fun x y H Q => ∃ a b, x = .bl a ∧ y = .bl b ∧ Q (.bl (a != b)) H) := by
  intro pins s σ H x y v u Q I rx ry h
  obtain ⟨a, b, rfl, rfl, q⟩ := h
  cases rx
  cases ry
  exact isnot_bool ⟨.bl _, H, I, rfl, q⟩
end
/-! ### data that hold ints -/
theorem hasDs_ints (K : PySem.W.Frag) (H : Hp) : ∀ ns : List Int, HasDs K H (ns.map Dt.int) (ns.map V.int)
  | [] => by rw [List.map_nil, List.map_nil, HasDs]
  | n :: ns => by
    rw [List.map_cons, List.map_cons, HasDs]
    exact ⟨_, _, rfl, by rw [HasD], hasDs_ints K H ns⟩
theorem hasD_listI {K : PySem.W.Frag} {H : Hp} {a : Addr} {ns : List Int} (h : SqL K H a (ns.map V.int)) : HasD K H (.lst (ns.map Dt.int)) (.ref a) := by
  rw [HasD]
  exact ⟨a, _, rfl, h, hasDs_ints K H ns⟩
theorem hasD_tupI {K : PySem.W.Frag} {H : Hp} {a : Addr} {ns : List Int} (h : SqT K H a (ns.map V.int)) : HasD K H (.tup (ns.map Dt.int)) (.ref a) := by
  rw [HasD]
  exact ⟨a, _, rfl, h, hasDs_ints K H ns⟩
theorem depDs_ints : ∀ ns : List Int, depDs (ns.map Dt.int) = 0
  | [] => by rw [List.map_nil, depDs]
  | n :: ns => by
    show max (depD (Dt.int n)) (depDs (ns.map Dt.int)) = 0
    rw [depDs_ints ns]
    rfl
theorem eqDs_ints : ∀ ms ns : List Int, eqDs (ms.map Dt.int) (ns.map Dt.int) = decide (ms = ns)
  | [], [] => by simp [eqDs]
  | [], n :: ns => by simp [eqDs]
  | m :: ms, [] => by simp [eqDs]
  | m :: ms, n :: ns => by
    rw [List.map_cons, List.map_cons, eqDs, eqDs_ints ms ns, eqD]
    by_cases h : m = n
    · subst h; simp
    · simp [h]
theorem eqD_listI (ms ns : List Int) : eqD (.lst (ms.map Dt.int)) (.lst (ns.map Dt.int)) = decide (ms = ns) := by rw [eqD, eqDs_ints]
theorem eqD_tupI (ms ns : List Int) : eqD (.tup (ms.map Dt.int)) (.tup (ns.map Dt.int)) = decide (ms = ns) := by rw [eqD, eqDs_ints]
theorem dep_listI (ns : List Int) : depD (.lst (ns.map Dt.int)) ≤ 60 := by rw [depD, depDs_ints]; decide
theorem dep_tupI (ns : List Int) : depD (.tup (ns.map Dt.int)) ≤ 60 := by rw [depD, depDs_ints]; decide
end L2
/-! OWN RULES: an item for op=, keywords, defaults of keyword parameters -/
namespace L2
open PySem PySem.Spec PyProof.Rows
section
variable {X : Cx}
/-- xs[i] op= .., i not below nought -/
def rGetL (K : PySem.W.Frag) : R2 := fun x y H Q => ∃ p xs i v, x = .ref p ∧ y = .int i ∧ SqL K H p xs ∧ 0 ≤ i ∧ xs[i.toNat]? = some v ∧ Q v H
theorem get_list : PGet X (rGetL X.K) := by
  intro pins s σ H o i ov iv Q I ro ri h
  obtain ⟨p, xs, k, z, rfl, rfl, hq, h0, he, q⟩ := h
  cases ro
  obtain ⟨t, rfl⟩ := ri
  obtain ⟨its, r, pl, hz⟩ := I.list hq
  obtain ⟨w, ew, rw'⟩ := r.get he
  have hl := r.length
  have hn := line63
  have hk : k.toNat < its.length := (List.getElem?_eq_some_iff.mp ew).1
  exact wpAny_getItem_list pl.isList h0 (by omega) (by simpa using ew) ⟨z, H, I, rw', q⟩
end
def kb11 {α : Type} : List α → List α → List α
  | [u0], [w0] => [u0, w0]
  | _, _ => []
theorem kb_rel11 {vs : List V} {us : List Value} {zs : List V} {ws : List Value} (r1 : Vals vs us) (r2 : Vals zs ws) : Vals (kb11 vs zs) (kb11 us ws) := by
  cases r1 with
  | nil => exact .nil
  | cons a ra =>
    cases ra with
    | nil =>
      cases r2 with
      | nil => exact .nil
      | cons b rb =>
        cases rb with
        | nil => exact .cons a (.cons b .nil)
        | cons _ _ => exact .nil
    | cons _ _ => exact .nil
theorem bd_kw1 {K : PySem.W.Frag} {fd : FuncData} {p k : Str} {kd : Addr} {v : Value} (e : PySem.W.nsIn K kd k = some (some v)) (hp : fd.params.posonlyargs = []) (ha : fd.params.args.map (·.arg) = [p]) (hv : fd.params.vararg = none) (hk : fd.params.kwonlyargs.map (·.arg) = [k])
    (hkw : fd.params.kwarg = none) (hd : fd.defaults = .none) (hkd : fd.kwdefaults = .ref kd) (hpk : (k == p) = false) : Binds K fd [p, k] [v] := by
  intro s us KX hl
  obtain ⟨u, rfl⟩ : ∃ u, us = [u] := by
    match us, hl with
    | [u], _ => exact ⟨u, rfl⟩
    | _ :: _ :: _, hl => simp at hl
  intro Mo A E Q hq
  have L := PySem.W.looks_nsIn (M := Mo) KX e
  unfold bindArgs
  have hz : seqItems? Value.none = pure none := rfl
  simp only [hp, ha, hv, hk, hkw, hd, hkd, hz, List.map_nil, List.nil_append, List.length_cons, List.length_nil, List.zip_cons_cons, List.zip_nil_right, pure_bind, Option.getD_none, List.forIn_nil]
  simp [List.lookup_cons, hpk]
  refine wpAny_bind (L A _ E s (fun _ _ h => h) ?_)
  simp [List.lookup_cons, hpk]
  exact wpAny_pure hq
end L2
/-! OWN RULES: exceptions that leave a def -/
namespace L2
open PySem PySem.Spec PyProof.Rows

theorem ObjOk.there {P : Program} {w : World} {H : Hp} {h : Heap} {a : Addr} {o : HO} (x : ObjOk P w H h a o) : ∃ ob, h.get? a = some ob := by
  cases o with
  | lst xs => obtain ⟨_, _, _, _, e⟩ := x; exact ⟨_, e⟩
  | tup xs => obtain ⟨_, _, _, p⟩ := x; obtain ⟨o, e, _⟩ := p; exact ⟨_, e⟩
  | dK kvs => obtain ⟨_, _, _, _, o, _, _, e, _⟩ := x; exact ⟨_, e⟩
  | dT kvs => obtain ⟨_, _, _, _, o, _, _, e, _⟩ := x; exact ⟨_, e⟩
  | set S n => obtain ⟨o, _, _, _, e, _⟩ := x; exact ⟨_, e⟩
  | ins C dx fs => obtain ⟨_, _, _, e, _⟩ := x; exact ⟨_, e⟩
  | own y => obtain ⟨_, e⟩ := x; exact ⟨_, e⟩
  | xd fs => obtain ⟨_, ⟨_, _, _, e, _⟩, _⟩ := x; exact ⟨_, e⟩
  | rng lo hi => obtain ⟨_, _, _, e⟩ := x; exact ⟨_, e⟩
  | frz ob u => obtain ⟨e, _⟩ := x; exact ⟨_, e⟩
  | tbl ps => exact ⟨_, (show h.get? a = some _ from x)⟩
  | met f y => exact ⟨_, (show h.get? a = some _ from x)⟩
  | ext φ => obtain ⟨_, ⟨_, e⟩, _⟩ := x; exact ⟨_, e⟩

/-- an exception on its way to the frames l, from the state of the call -/
structure Fly (P : Program) (w : World) (l : List Env) (H H' : Hp) (s s' : Shared) (ea : Addr) (cls : Value) : Prop where
  os : s'.os = s.os
  bare : AllBare s'.gens
  un : Un (frs l) [] H H' s.heap s'.heap
  hok : HOk P w H' s'.heap
  fly : ∃ (B : Heap) (t : Addr), Heap.FlyingW B l ea cls (.ref t) s'.heap ∧ (∀ b o o', s.heap.get? b = some o → s'.heap.get? b = some o' → b ∉ frs l → B.get? b = some o') ∧ (∀ b u o', H' b = some u → s'.heap.get? b = some o' → B.get? b = some o')
  new : s.heap.get? ea = none
/-- how an exception lies behind a call -/
def CX1 (P : Program) (w : World) : CXT := fun l H s E e s' => ∃ ea cls H', e = .ref ea ∧ Fly P w l H H' s s' ea cls ∧ E cls none H'
theorem pass1_0 {P : Program} {w : World} {X : Cx} : Passes (CX1 P w) X E0 := fun _ _ _ _ _ _ _ ⟨_, _, _, _, _, z⟩ => z.elim

section
variable {X : Cx} {pins : List (Addr × Obj)} {σ : St} {H H' : Hp} {s s' : Shared} {ea : Addr} {cls : Value}
theorem Inv.stkNe (I : Inv X pins σ H s) {b : Addr} {o : Obj} (e : X.s₀.heap.get? b = some o) (hb : b ∉ X.fs) : b ∉ frs X.stack := fun z => by
  rcases List.mem_cons.mp (I.stkSub b z) with q | q
  · have h1 : @LT.lt Nat _ b X.s₀.heap.objs.size := Heap.lt_size e
    have h2 : @LE.le Nat _ X.s₀.heap.objs.size X.env.locals := I.ok.above
    have h3 : @Eq Nat b X.env.locals := q
    omega
  · exact hb q
theorem Inv.fsStk (I : Inv X pins σ H s) {b : Addr} (hb : b ∈ X.fs) : b ∈ frs X.stack := by
  rcases I.ok.stk with e | ⟨e, hf⟩
  · rw [e]; exact hb
  · rw [e]
    unfold frs
    rw [List.filterMap_cons, hf]
    exact List.mem_cons_of_mem _ hb
/-- an exception that came from a callee leaves this frame too -/
theorem fly_on (I : Inv X pins σ H s) (hex : X.ex = []) (F : Fly X.prog X.w X.stack H H' s s' ea cls) {h' : Heap} {B : Heap} {t : Addr} (hf : Heap.FlyingW B X.outer ea cls (.ref t) h') (hu : s'.heap.UpToSlots h')
    (k1 : ∀ b o o', s.heap.get? b = some o → s'.heap.get? b = some o' → b ∉ frs X.stack → B.get? b = some o') (k2 : ∀ b u o', H' b = some u → s'.heap.get? b = some o' → B.get? b = some o') :
    Fly X.prog X.w X.outer X.H₀ H' X.s₀ { s' with heap := h' } ea cls := by
  have base := I.base
  rw [hex] at base
  have noE : ∀ b : Addr, b ∉ ([] : List Addr) := fun b => by simp
  have lift : ∀ b o, X.s₀.heap.get? b = some o → b ∉ X.fs → ∃ o1 o2, s.heap.get? b = some o1 ∧ s'.heap.get? b = some o2 ∧ h'.get? b = some o2 := fun b o e hb => by
    obtain ⟨o1, e1⟩ := base.there b o e (noE b)
    obtain ⟨o2, e2⟩ := F.un.there b o1 e1 (noE b)
    exact ⟨o1, o2, e1, e2, hf.1 _ _ (k1 b o1 o2 e1 e2 (I.stkNe e hb))⟩
  have slots : ∀ b o, X.s₀.heap.get? b = some o → X.H₀ b = none → b ∈ X.fs → ∃ sl, h'.get? b = some { o with slots := sl } := fun b o e n hb => by
    obtain ⟨sl, e1⟩ := base.slot b o e n hb (noE b)
    obtain ⟨sl2, e2⟩ := F.un.slot b _ e1 (base.free b o e n (noE b)) (I.fsStk hb) (noE b)
    obtain ⟨_, o3, e3, nf⟩ := I.ok.funs.mem hb
    rw [e] at e3
    cases e3
    obtain ⟨sl3, e4⟩ := hu b _ e2 nf
    exact ⟨sl3, e4⟩
  refine ⟨F.os.trans I.os, F.bare, ⟨fun b o e n hb _ => ?_, fun b o e n hb _ => slots b o e n hb, fun b o e n _ => ?_, fun b o e _ => ?_, fun b xs q => F.un.tups b xs (base.tups b xs q), fun b o xs q => F.un.frzs b o xs (base.frzs b o xs q), fun b ps q => ?_⟩, fun b u e => ?_, ⟨B, t, hf, fun b o o' e e' hb => ?_, fun b u o' q e' => ?_⟩, ?_⟩
  · have e1 := base.keep b o e n hb (noE b)
    have e2 := F.un.keep b o e1 (base.free b o e n (noE b)) (I.stkNe e hb) (noE b)
    exact hf.1 _ _ (k1 b o o e1 e2 (I.stkNe e hb))
  · obtain ⟨o1, e1⟩ := base.there b o e (noE b)
    exact F.un.free b o1 e1 (base.free b o e n (noE b)) (noE b)
  · by_cases hb : b ∈ X.fs
    · obtain ⟨sl, q⟩ := slots b o e (I.ok.frf b hb) hb
      exact ⟨_, q⟩
    · obtain ⟨_, o2, _, _, q⟩ := lift b o e hb
      exact ⟨o2, q⟩
  · obtain ⟨m1, e1⟩ := base.tbls b ps q
    obtain ⟨m2, e2⟩ := F.un.tbls b _ e1
    exact ⟨m1 ++ m2, by rw [e2, Array.append_assoc]⟩
  · refine (F.hok b u e).stay (fun c v hc q => ?_) (fun _ q => q) fun _ _ q => q
    rcases hc with z | z
    · subst z
      exact hf.1 _ _ (k2 _ _ _ e q)
    · exact hf.1 _ _ (k2 _ _ _ z q)
  · by_cases hfs : b ∈ X.fs
    · exact absurd hfs hb
    · obtain ⟨o1, o2, e1, e2, q⟩ := lift b o e hfs
      have q' : h'.get? b = some o' := e'
      rw [q] at q'
      cases q'
      exact k1 b o1 _ e1 e2 (I.stkNe e hfs)
  · obtain ⟨o2, e2⟩ := (F.hok b u q).there
    have z := k2 b u o2 q e2
    have q' : h'.get? b = some o' := e'
    rw [hf.1 _ _ z] at q'
    cases q'
    exact z
  · cases q : X.s₀.heap.get? ea with
    | none => rfl
    | some o =>
      obtain ⟨o1, e1⟩ := base.there ea o q (noE ea)
      rw [F.new] at e1
      cases e1

end

section
variable {P : Program} {w : World} {K : PySem.W.Frag} {mg : Str → Option Value} {base : Heap} {N : List Str} {qual : Str} {scope : Scope} {f : Addr} {cd : Value} {A : Around} {outer : List Env} {s : Shared} {H : Hp} {E : XK}
/-- an exception of a callee passes -/
theorem pass1 : Passes (CX1 P w) (cxOf (CX1 P w) P w K mg base N qual scope f cd A outer s H E) E := by
  intro pins σ H1 s1 e s' I h
  obtain ⟨ea, cls, H', rfl, F, q⟩ := h
  obtain ⟨B, t, hf, k1, k2⟩ := F.fly
  show wpAny (model P w) (A.deeper (envOfC qual scope s.heap.objs.size f cd)) (leaving (envOfC qual scope s.heap.objs.size f cd) (.ref ea)) _ _ s'
  refine wpAny_leaves_onW I.ok.frames (L := s.heap.objs.size) rfl hf fun h' hf' hu => ?_
  exact ⟨ea, cls, H', rfl, fly_on I rfl F hf' hu k1 k2, q⟩
/-- an exception that is made here leaves -/
theorem raise1 {pins : List (Addr × Obj)} {σ : St} {H1 : Hp} {s1 : Shared} {ea : Addr} {cls : Value} {vs : List Value} {h1 : Heap} (I : Inv (cxOf (CX1 P w) P w K mg base N qual scope f cd A outer s H E) pins σ H1 s1)
    (hx : Heap.MadeExcOf s1.heap h1 ea cls vs) (q : E cls none H1) : (cxOf (CX1 P w) P w K mg base N qual scope f cd A outer s H E).xe (.ref ea) { s1 with heap := h1 } := by
  generalize hX : cxOf (CX1 P w) P w K mg base N qual scope f cd A outer s H E = X at I
  have hstk : X.stack = envOfC qual scope s.heap.objs.size f cd :: outer := by rw [← hX]; rfl
  have hin : ∀ env ∈ X.stack, ∀ b, env.frame = some b → b ∈ frs X.stack := fun env he b hb => List.mem_filterMap.mpr ⟨env, he, hb⟩
  have noE : ∀ b : Addr, b ∉ ([] : List Addr) := fun b => by simp
  have ib : Un (frs outer) [] H H1 s.heap s1.heap := by
    have := I.base
    rw [← hX] at this
    exact this
  have hX' := hX
  subst hX'
  show wpAny (model P w) (A.deeper (envOfC qual scope s.heap.objs.size f cd)) (leaving (envOfC qual scope s.heap.objs.size f cd) (.ref ea)) _ _ { s1 with heap := h1 }
  have hideg : ∀ b o, s1.heap.get? b = some o → b ∉ frs (envOfC qual scope s.heap.objs.size f cd :: outer) → (PySem.W.hideAll s1.heap (frs (envOfC qual scope s.heap.objs.size f cd :: outer))).get? b = some o := fun b o e hb => PySem.W.hideAll_get _ e hb
  refine wpAny_leaves_madeW (base := PySem.W.hideAll s1.heap (frs (envOfC qual scope s.heap.objs.size f cd :: outer))) (h := s1.heap) I.ok.frames (L := s.heap.objs.size) rfl (fun b o q => PySem.W.of_hideAll _ q)
    (PySem.W.funFrames_hide I.stack hin) hx fun h' t x1 x2 x3 x4 => ?_
  have stkNe : ∀ b o, s.heap.get? b = some o → b ∉ frs outer → b ∉ frs (envOfC qual scope s.heap.objs.size f cd :: outer) := fun b o e hb => I.stkNe e hb
  have trk : ∀ b u, H1 b = some u → b ∉ frs (envOfC qual scope s.heap.objs.size f cd :: outer) := fun b u e z => by
    have := I.stkFree b z
    rw [e] at this
    cases this
  have up : s1.heap.UpToSlots h' := fun b o e nf => x4 b o (hx.keeps b o e) nf
  have stay : ∀ b o, s1.heap.get? b = some o → b ∉ frs (envOfC qual scope s.heap.objs.size f cd :: outer) → h'.get? b = some o := fun b o e hb => x1.1 _ _ (hideg b o e hb)
  have slots : ∀ b o, s.heap.get? b = some o → H b = none → b ∈ frs outer → ∃ sl, h'.get? b = some { o with slots := sl } := fun b o e n hb => by
    obtain ⟨sl, e1⟩ := ib.slot b o e n hb (noE b)
    obtain ⟨_, o3, e3, nf⟩ := I.ok.funs.mem hb
    have e3' : s.heap.get? b = some o3 := e3
    rw [e] at e3'
    cases e3'
    obtain ⟨sl3, e4⟩ := up b _ e1 nf
    exact ⟨sl3, e4⟩
  refine ⟨ea, cls, H1, rfl, ⟨I.os, I.bare, ⟨fun b o e n hb _ => ?_, fun b o e n hb _ => slots b o e n hb, fun b o e n _ => ib.free b o e n (noE b), fun b o e _ => ?_, ib.tups, ib.frzs, ib.tbls⟩, fun b u e => ?_, ⟨_, t, x1, fun b o o' e e' hb => ?_, fun b u o' q e' => ?_⟩, ?_⟩, q⟩
  · exact stay b o (ib.keep b o e n hb (noE b)) (stkNe b o e hb)
  · by_cases hb : b ∈ frs outer
    · obtain ⟨sl, q⟩ := slots b o e (I.ok.frf b hb) hb
      exact ⟨_, q⟩
    · obtain ⟨o1, e1⟩ := ib.there b o e (noE b)
      exact ⟨o1, stay b o1 e1 (stkNe b o e hb)⟩
  · refine (I.hok b u e).stay (fun c v hc q => ?_) (fun _ q => q) fun _ _ q => q
    rcases hc with z | z
    · subst z
      exact stay _ _ q (trk _ _ e)
    · exact stay _ _ q (trk _ _ z)
  · obtain ⟨o1, e1⟩ := ib.there b o e (noE b)
    have z := stay b o1 e1 (stkNe b o e hb)
    have e2 : h'.get? b = some o' := e'
    rw [z] at e2
    cases e2
    exact hideg b _ e1 (stkNe b o e hb)
  · obtain ⟨o1, e1⟩ := (I.hok b u q).there
    have z := stay b o1 e1 (trk _ _ q)
    have e2 : h'.get? b = some o' := e'
    rw [z] at e2
    cases e2
    exact hideg b _ e1 (trk _ _ q)
  · cases q : s.heap.get? ea with
    | none => rfl
    | some o =>
      obtain ⟨o1, e1⟩ := ib.there ea o q (noE ea)
      rw [hx.new] at e1
      cases e1
end
end L2
/-! OWN RULES: raise, calls whose exceptions are caught, try .. except C as n -/
namespace L2
open PySem PySem.Spec PyProof.Rows

/-- an own exception class over ValueError, without an __init__ of its own -/
def vErr : List Value := [.type "ValueError", .type "Exception", .type "BaseException", .type "object"]
def XCls (K : PySem.W.Frag) (C : Addr) : Prop := PySem.W.excIn K C vErr "ValueError.__new__" = true
theorem exc_obj {K : PySem.W.Frag} {h : Heap} {C : Addr} {bmB : List Value} {newId : String} (X : K.In h) (q : PySem.W.excIn K C bmB newId = true) :
    ∃ bm N nm qn bs hdct sn sub ab col dd k0 k1 k2 k3 k5 mN, h.get? C = some (excClassObj nm qn C N bs bm hdct sn sub ab col dd k0 k1 k2 k3 k5 newId) ∧ h.Ns N mN ∧ mN "__init__" = none ∧ OwnTail h bmB bm := by
  unfold PySem.W.excIn at q
  split at q
  · rename_i dd cd sl ho
    split at q
    · rename_i C' bm k0 k1 k2 k3 n k5 hm hs
      simp only [Bool.and_eq_true, beq_iff_eq, Bool.not_eq_true'] at q
      obtain ⟨⟨⟨⟨⟨rfl, rfl⟩, hdel⟩, ht⟩, hok⟩, hni⟩ := q
      obtain ⟨nm, bs, mro, ns, qn, hd, sn, sub, ab, col, del⟩ := cd
      dsimp only at hm hdel hok hni
      subst hm hdel
      have hsl : sl = #[k0, k1, k2, k3, some (.builtin n), k5] := by
        obtain ⟨l⟩ := sl
        simp only at hs
        rw [hs]
      subst hsl
      exact ⟨bm, ns, nm, qn, bs, hd, sn, sub, ab, col, dd, k0, k1, k2, k3, k5, _, X _ _ ho, .of_isNs (PySem.W.isNs_of_in X hok), PySem.W.nsMap_none_of_in X hok hni, PySem.W.tail_of_in X ht⟩
    · cases q
  · cases q

/-- raise C(..) -/
def tRaise (W : Hp → Prop) (t : TA) : TS := fun _ σ H => t σ H fun vs H1 => vs.length ≤ sizeLine ∧ W H1
section
variable {X : Cx}
theorem ps_raise {x : Str} {C : Addr} {e : Expr} {es : List Expr} {t : TA} {np cpos pos : Pos} {W : Hp → Prop} (hc : X.calm = true) (hg : Gl X x) (hm : X.mg x = some (.ref C)) (hC : XCls X.K C) (ha : PA X (e :: es) t)
    (hxe : ∀ {pins : List (Addr × Obj)} {σ : St} {H : Hp} {s : Shared} {ea : Addr} {vs : List Value} {h1 : Heap}, Inv X pins σ H s → Heap.MadeExcOf s.heap h1 ea (.ref C) vs → W H → X.xe (.ref ea) { s with heap := h1 })
    (hdb : (x == ("__debug__" : Str)) = false := by decide) (he : starEach (e :: es) X.env = (false, eval e X.env) :: starEach es X.env := by rfl) (hpl : (backTo cpos (starEach es X.env)).any (·.1) = false := by rfl) :
    PS X (.Raise (some (.Call (.Name x np) (e :: es) [] cpos)) none pos) (tRaise W t) := by
  intro pins s σ H D I h
  obtain ⟨bm, N, nm, qn, bs, hdct, sn, sub, ab, col, dd, k0, k1, k2, k3, k5, mN, hC, hN, hni, T⟩ := exc_obj I.mod.kin hC
  have FB := F.excBase_ValueError
  refine wpAny_Raise_call_subT (C := C) (nm := nm) (q := qn) (N := N) (bs := bs) (bm := bm) (hdct := hdct) (sn := sn) (sub := sub) (ab := ab) (col := col) (dd := dd) (k0 := k0) (k1 := k1) (k2 := k2) (k3 := k3) (k5 := k5)
    FB (mN := mN) (T.hasType FB.hasBase) (I.ok.hd hc) (by rw [he]; show (false || (backTo cpos (starEach es X.env)).any (·.1)) = false; rw [hpl]; rfl) hni (ld_glob I hg hm ⟨rfl, ?_⟩ hdb)
  have hA := ha cpos pins s σ H _ I h
  rw [he] at hA ⊢
  exact Calls.evalArgs_plain (thn hA fun us s2 ⟨vs, H2, I2, r2, hz, q2⟩ => ⟨rfl, by rw [← r2.length]; exact hz, I2.bk _ _ hC, hN.keeps I2.bk, T.keeps I2.bk, fun h' e hm => hxe I2 hm q2⟩)
end

section
variable {X : Cx} {pins pn : List (Addr × Obj)} {σ : St} {H H' : Hp} {s s' : Shared}
end
end L2
/-! OWN RULES: try: .. except C as n: .. -/
namespace L2
open PySem PySem.Spec PyProof.Rows
section
variable {X : Cx}
end
end L2
/-! OWN RULES: isinstance of a caught exception -/
namespace L2
open PySem PySem.Spec PyProof.Rows
/-- what is asked of an own exception class for isinstance -/
structure XIs (K : PySem.W.Frag) (C : Addr) : Prop where
  ga : PySem.W.findIn K (.ref C) "__getattribute__" = some (some (.builtin "BaseException.__getattribute__"))
  gn : PySem.W.findIn K (.ref C) "__getattr__" = some none
  cl : PySem.W.findIn K (.ref C) "__class__" = some (some (.builtin "object.__class__"))
  be : PySem.W.mroIn K C (.type "BaseException") = some true
  ob : PySem.W.mroIn K C (.type "object") = some true
  is : (PySem.W.clsIn K C).isSome = true
section
variable {prog : Program} {w : World} {A : Around} {E : Value → Shared → Prop} {K : PySem.W.Frag} {h : Heap} {g : Array GenState} {d : Drawn} {t : Nat} {os : OsState} {a C : Addr} {o : Obj}
end
section
variable {X : Cx}
end
end L2
/-! OWN RULES: count and index of bools; a def from which exceptions may leave -/
namespace L2
open PySem PySem.Spec PyProof.Rows
section
variable {X : Cx}
end
section
variable {P : Program} {w : World} {K : PySem.W.Frag} {mg : Str → Option Value} {base : Heap}
/-- THE RULE for a def from which exceptions may leave -/
theorem Fun.okX {x qual : Str} {st : Stmt} {f : Addr} {fd : FuncData} {N ps : List Str} {k : Nat} {sp : Sp} (F : Fun K x qual st f fd) (S : FnScope N ps (defScope st)) (len : ∀ vs H Q E, sp vs H Q E → vs.length = ps.length)
    (hbody : ∀ (cdv : Value) (A : Around) (outer : List Env) (s : Shared) (H : Hp) (vs : List V) (Q : VK) (E : XK), Room k (A.deeper (envOfC qual (defScope st) s.heap.objs.size f cdv)) → sp vs H Q E →
      ∃ t, PSs (cxOf (CX1 P w) P w K mg base N qual (defScope st) f cdv A outer s H E) (defBody st) t ∧ t { nx := fun _ H' => Q .non H', rt := Q } (start N vs) H) : FnOk P w K mg base (CX1 P w) (k + 1) f fd ps sp := by
  obtain ⟨oc, od, kV, doc, pm, an, cdv, ct, osl, rfl, lk, hcd⟩ := F.ex
  exact fn_of lk hcd S len fun A outer s H vs Q E hr hsp => hbody cdv A outer s H vs Q E hr hsp
/-- raise C(..) in such a def -/
theorem ps_raise1 {N : List Str} {qual : Str} {scope : Scope} {f : Addr} {cd : Value} {A : Around} {outer : List Env} {s : Shared} {H : Hp} {E : XK} {x : Str} {C : Addr} {e : Expr} {es : List Expr} {t : TA} {np cpos pos : Pos}
    (hg : Gl (cxOf (CX1 P w) P w K mg base N qual scope f cd A outer s H E) x) (hm : mg x = some (.ref C)) (hC : XCls K C) (ha : PA (cxOf (CX1 P w) P w K mg base N qual scope f cd A outer s H E) (e :: es) t)
    (hdb : (x == ("__debug__" : Str)) = false := by decide) (he : starEach (e :: es) (envOfC qual scope s.heap.objs.size f cd) = (false, eval e (envOfC qual scope s.heap.objs.size f cd)) :: starEach es (envOfC qual scope s.heap.objs.size f cd) := by rfl)
    (hpl : (backTo cpos (starEach es (envOfC qual scope s.heap.objs.size f cd))).any (·.1) = false := by rfl) :
    PS (cxOf (CX1 P w) P w K mg base N qual scope f cd A outer s H E) (.Raise (some (.Call (.Name x np) (e :: es) [] cpos)) none pos) (tRaise (E (.ref C) none) t) :=
  ps_raise rfl hg hm hC ha (fun I hx q => raise1 I hx q) hdb he hpl
end
/-- the loops' side condition in such a def -/
theorem passesL {P : Program} {w : World} {K : PySem.W.Frag} {mg : Str → Option Value} {base : Heap} {N : List Str} {qual : Str} {scope : Scope} {f : Addr} {cd : Value} {A : Around} {outer : List Env} {s : Shared} {H : Hp} {E : XK} :
    PassesOwn (model P w) (cxOf (CX1 P w) P w K mg base N qual scope f cd A outer s H E).A (cxOf (CX1 P w) P w K mg base N qual scope f cd A outer s H E).env (cxOf (CX1 P w) P w K mg base N qual scope f cd A outer s H E).xe := PassesOwn.leaving
end L2
namespace L2
open PySem
/-- the kinds that a class is of -/
def kinds (K : PySem.W.Frag) (C : Value) (Ds : List Value) : List (Option Bool) := Ds.map (PySem.W.kitOne K C)
end L2
namespace L2
open PySem PySem.Spec PyProof.Rows
/-- whether an item is written with a star -/
def isStar : Expr → Bool
  | .Starred _ _ => true
  | _ => false
theorem starEach_no {e : Expr} {es : List Expr} {env : Env} (h : isStar e = false) : starEach (e :: es) env = (false, eval e env) :: starEach es env := by
  cases e <;> first | rfl | cases h
section
variable {X : Cx} {e : Expr} {es : List Expr} {te : TE} {t : TA}
/-- pa_cons for long rows: the side condition looks at the first item alone -/
theorem pa_more (ha : PE X e te) (hr : PA X es t) (h : isStar e = false := by rfl) : PA X (e :: es) (tCons te t) := pa_cons ha hr (starEach_no h)
end
end L2
/-! OWN RULES: range objects; tuples made of them, turned about, repeated, cut whole; calls with three keywords -/
namespace L2
open PySem PySem.Spec PyProof.Rows
section
variable {prog : Program} {w : World} {A : Around} {E : Value → Shared → Prop} {s : Shared}
end
section
variable {X : Cx}
end
end L2
/-! OWN RULES: t[::-1], t[a:] that may be the whole, t * n -/
namespace L2
open PySem PySem.Spec PyProof.Rows
section
open PySem.SeqAt
open PySem.MeetsSeq PySem.MeetsSeq2 PySem.MeetsSeq3
end
end L2
namespace L2
open PySem PySem.Spec PyProof.Rows
section
variable {X : Cx}
end
end L2
/-! OWN RULES: t[::-1], t[a:] that may be the whole -/
namespace HT
open PySem PyProof.Rows
section
variable {prog : Program} {w : World} {A : Around} {E : Value → Shared → Prop} {s : Shared}
end
end HT
namespace L2
open PySem PySem.Spec PyProof.Rows
section
variable {X : Cx}
end
end L2
/-! OWN RULES: rows of written things: ints, bools, texts, None, a - b of written ints; tuples and lists of these -/
namespace L2
open PySem PySem.Spec PyProof.Rows
/-- a written thing: a plain one, or a tuple or list of such -/
inductive Lit where
  | c (v : V) | t (vs : List V) | l (vs : List V) | r (vs : List V) (k : Int)
section
variable {X : Cx}
end
/-- a written thing as it stands in H, new since G -/
def LitAt (G H : Hp) : Lit → V → Prop
  | .c v, x => x = v
  | .t xs, x => ∃ p, x = .ref p ∧ G p = none ∧ H p = some (.tup xs)
  | .l xs, x => ∃ p, x = .ref p ∧ G p = none ∧ H p = some (.lst xs)
  | .r xs k, x => ∃ p, x = .ref p ∧ G p = none ∧ H p = some (.lst (List.replicate k.toNat xs).flatten)
theorem LitAt.keep {G H H' : Hp} (s : ∀ p o, G p = none → H p = some o → H' p = some o) : ∀ {l : Lit} {x : V}, LitAt G H l x → LitAt G H' l x
  | .c v, x, h => h
  | .t xs, x, ⟨p, e, g, h⟩ => ⟨p, e, g, s _ _ g h⟩
  | .l xs, x, ⟨p, e, g, h⟩ => ⟨p, e, g, s _ _ g h⟩
  | .r xs k, x, ⟨p, e, g, h⟩ => ⟨p, e, g, s _ _ g h⟩
theorem LitAt.same {G H H' : Hp} (s : Same H H') {l : Lit} {x : V} (h : LitAt G H l x) : LitAt G H' l x := h.keep fun p o _ e => s p o e
end L2
/-! OWN RULES: texts with braces -/
namespace L2
open PySem PySem.Spec PyProof.Rows
section
variable {X : Cx} {e v1 v2 : Expr} {es : List Expr} {te : TE} {t : Str → TE} {pos : Pos}
end
end L2
/-! OWN RULES: a dict is held fast while a loop walks it, and let go again; its keys walked -/
namespace L2
open PySem PySem.Spec PyProof.Rows
section
variable {X : Cx} {pins : List (Addr × Obj)} {σ : St} {H : Hp} {s : Shared} {a : Addr} {o : Obj} {u : HO}
theorem Inv.freeze (I : Inv X pins σ H s) (hm : Mut (some u)) (ha : H a = some u) (ho : s.heap.get? a = some o) : Inv X pins σ (upd H a (.frz o u)) s := by
  have new : ObjOk X.prog X.w (upd H a (.frz o u)) s.heap a (.frz o u) := by
    refine ⟨ho, (I.hok a u ha).stay (fun _ _ _ q => q) (fun c q => ?_) fun c xs q => ?_⟩
    · have hc : c ≠ a := fun z => by
        subst z
        rw [ha] at q
        cases q
        exact hm
      rw [upd_ne hc]
      exact q
    · have hc : c ≠ a := fun z => by
        subst z
        rw [ha] at q
        cases q
        exact hm
      rw [upd_ne hc]
      exact q
  exact I.write (t' := s.toks) (x := a) (e := a) (o := .frz o u) (h' := s.heap) (by rw [ha]; exact hm) (.inl rfl) (fun b v _ q => q) ⟨o, ho⟩ new
theorem Inv.thaw (I : Inv X pins σ H s) (ha : H a = some (.frz o u)) (h0 : ∀ o' u', X.H₀ a ≠ some (.frz o' u')) (hm : Mut (some u)) : Inv X pins σ (upd H a u) s := by
  have ne : ∀ {b : Addr} {v : HO}, H b = some v → (∀ o' u', v ≠ .frz o' u') → b ≠ a := fun {b v} e h z => by
    subst z
    rw [ha] at e
    exact h _ _ (Option.some.inj e).symm
  have nen : ∀ {b : Addr}, H b = none → b ≠ a := fun {b} e z => by
    subst z
    rw [ha] at e
    cases e
  refine ⟨I.ok, I.os, I.bare, ⟨I.base.keep, I.base.slot, fun b ob e n hx => ?_, I.base.there, fun b xs q => ?_, fun b ob v q => ?_, fun b ps q => ?_⟩, I.loc, I.cell, ?_, fun x c e => ?_, fun p hp => ?_, fun b v e => ?_, I.len⟩
  · have q := I.base.free b ob e n hx
    rw [upd_ne (nen q)]
    exact q
  · have q' := I.base.tups b xs q
    rw [upd_ne (ne q' fun _ _ z => nomatch z)]
    exact q'
  · have hb : b ≠ a := fun z => by
      subst z
      exact h0 _ _ q
    rw [upd_ne hb]
    exact I.base.frzs b ob v q
  · obtain ⟨more, z⟩ := I.base.tbls b ps q
    exact ⟨more, by rw [upd_ne (ne z fun _ _ z => nomatch z)]; exact z⟩
  · rw [upd_ne (nen I.free)]
    exact I.free
  · rw [upd_ne (nen (I.freeC x c e))]
    exact I.freeC x c e
  · obtain ⟨q1, q2, q3⟩ := I.pin p hp
    exact ⟨q1, by rw [upd_ne (nen q2)]; exact q2, q3⟩
  · have own : ∀ (c y : Addr), H c = some (.own y) → upd H a u c = some (.own y) := fun c y q => by
      rw [upd_ne (ne q fun _ _ z => nomatch z)]
      exact q
    have tup : ∀ (c : Addr) (xs : List V), H c = some (.tup xs) → upd H a u c = some (.tup xs) := fun c xs q => by
      rw [upd_ne (ne q fun _ _ z => nomatch z)]
      exact q
    by_cases hb : b = a
    · subst hb
      rw [upd_same] at e
      cases e
      obtain ⟨_, q⟩ := I.hok _ _ ha
      exact q.stay (fun _ _ _ q => q) (fun c q => own c _ q) tup
    · rw [upd_ne hb] at e
      exact (I.hok b v e).stay (fun _ _ _ q => q) (fun c q => own c _ q) tup
/-- .. behind an expression -/
def tThawE (H0 : Hp) (t : TE) : TE := fun σ H Q => t σ H fun v H' => ∃ a o u, H' a = some (.frz o u) ∧ (∀ o' u', H0 a ≠ some (.frz o' u')) ∧ Mut (some u) ∧ Q v (upd H' a u)
theorem pe_thaw {e : Expr} {t : TE} (h : PE X e t) : PE X e (tThawE X.H₀ t) := by
  intro pins s σ H Q I q
  refine thn (h pins s σ H _ I q) fun v s1 ⟨x, H1, I1, r, a, o, u, ha, h0, hm, q⟩ => ?_
  exact ⟨x, _, I1.thaw ha h0 hm, r, q⟩
end
end L2
/-! OWN RULES: d.values() walked -/
namespace L2
open PySem PySem.Spec PyProof.Rows
section
variable {X : Cx}
end
end L2
/-! sorted of unlike tuples of ints -/
namespace SortT
open PySem PyProof.Rows PySem.W
/-- what a row of questions finds, where every question is answered by f and asks of two unlike things of n -/
def Wp (f : Nat → Nat → Bool) (n : Nat) {α : Type} : KasT α → (α → Prop) → Prop
  | .ret a, R => R a
  | .ask i j k, R => i < n ∧ j < n ∧ i ≠ j ∧ Wp f n (k (f i j)) R
theorem Wp.mono {f : Nat → Nat → Bool} {n : Nat} {α : Type} {R R' : α → Prop} (h : ∀ a, R a → R' a) : ∀ {t : KasT α}, Wp f n t R → Wp f n t R'
  | .ret a, q => h a q
  | .ask _ _ _, ⟨a, b, c, q⟩ => ⟨a, b, c, Wp.mono h q⟩
theorem Wp.bind {f : Nat → Nat → Bool} {n : Nat} {α β : Type} {g : α → KasT β} {R : β → Prop} : ∀ {t : KasT α}, Wp f n t (fun a => Wp f n (g a) R) → Wp f n (t.bind g) R
  | .ret _, q => q
  | .ask _ _ _, ⟨a, b, c, q⟩ => ⟨a, b, c, Wp.bind q⟩
structure Tot (f : Nat → Nat → Bool) (n : Nat) : Prop where
  tot : ∀ i j, i < n → j < n → i ≠ j → f i j = false → f j i = true
  asy : ∀ i j, i < n → j < n → f i j = true → f j i = false
  tr : ∀ i j k, i < n → j < n → k < n → f i j = true → f j k = true → f i k = true
def P (n : Nat) (p : Array Nat) : Prop := p.toList.Perm (List.range n)
section
variable {n : Nat} {p : Array Nat}
theorem P.size (h : P n p) : p.size = n := by
  have := h.length_eq
  rw [List.length_range] at this
  simpa using this
theorem getD_eq {k : Nat} (h : k < p.size) : p.getD k 0 = p[k] := by simp [Array.getD, h]
theorem P.lt (h : P n p) {k : Nat} (hk : k < n) : p.getD k 0 < n := by
  have hs := h.size
  rw [getD_eq (by omega)]
  exact List.mem_range.mp (h.mem_iff.mp (by simp))
theorem P.inj (h : P n p) {a b : Nat} (ha : a < n) (hb : b < n) (e : p.getD a 0 = p.getD b 0) : a = b := by
  have hs := h.size
  rw [getD_eq (by omega), getD_eq (by omega)] at e
  have nd : p.toList.Nodup := h.nodup_iff.mpr List.nodup_range
  exact (List.getElem_inj (h₀ := by simp; omega) (h₁ := by simp; omega) nd).mp (by simpa using e)
def Up (f : Nat → Nat → Bool) (p : Array Nat) (m : Nat) : Prop := ∀ a b, a < b → b < m → f (p.getD a 0) (p.getD b 0) = true
def Down (f : Nat → Nat → Bool) (p : Array Nat) (m : Nat) : Prop := ∀ a b, a < b → b < m → f (p.getD b 0) (p.getD a 0) = true
variable {f : Nat → Nat → Bool}
theorem Up.more (T : Tot f n) (hp : P n p) {m : Nat} (h1 : 1 ≤ m) (hm : m < n) (u : Up f p m) (h : f (p.getD (m - 1) 0) (p.getD m 0) = true) : Up f p (m + 1) := by
  intro a b ab bm
  by_cases e : b = m
  · subst e
    by_cases e2 : a = b - 1
    · subst e2
      exact h
    · exact T.tr _ _ _ (hp.lt (by omega)) (hp.lt (by omega)) (hp.lt hm) (u a (b - 1) (by omega) (by omega)) h
  · exact u a b ab (by omega)
theorem Down.more (T : Tot f n) (hp : P n p) {m : Nat} (h1 : 1 ≤ m) (hm : m < n) (u : Down f p m) (h : f (p.getD m 0) (p.getD (m - 1) 0) = true) : Down f p (m + 1) := by
  intro a b ab bm
  by_cases e : b = m
  · subst e
    by_cases e2 : a = b - 1
    · subst e2
      exact h
    · exact T.tr _ _ _ (hp.lt hm) (hp.lt (by omega)) (hp.lt (by omega)) h (u a (b - 1) (by omega) (by omega))
  · exact u a b ab (by omega)
theorem asc (T : Tot f n) (hp : P n p) : ∀ (c m : Nat), 1 ≤ m → m + c ≤ n → Up f p m → Wp f n (kas_asc p c m) fun r => m ≤ r ∧ r ≤ m + c ∧ Up f p r ∧ (r < m + c → f (p.getD r 0) (p.getD (r - 1) 0) = true)
  | 0, m, _, _, u => ⟨Nat.le_refl _, Nat.le_refl _, u, fun h => absurd h (by omega)⟩
  | c + 1, m, h1, hm, u => by
    refine ⟨hp.lt (by omega), hp.lt (by omega), fun e => ?_, ?_⟩
    · have := hp.inj (by omega) (by omega) e
      omega
    cases h : f (p.getD m 0) (p.getD (m - 1) 0) with
    | true => exact ⟨Nat.le_refl _, by omega, u, fun _ => h⟩
    | false =>
      have u' := u.more T hp h1 (by omega) (T.tot _ _ (hp.lt (by omega)) (hp.lt (by omega)) (fun e => by have := hp.inj (by omega) (by omega) e; omega) h)
      show Wp f n (kas_asc p c (m + 1)) _
      refine (asc T hp c (m + 1) (by omega) (by omega) u').mono fun r q => ?_
      exact ⟨by omega, by omega, q.2.2.1, fun z => q.2.2.2 (by omega)⟩
theorem desc (T : Tot f n) (hp : P n p) : ∀ (c m : Nat), 2 ≤ m → m + c ≤ n → Down f p m → Wp f n (kas_desc c p m 0) fun r => r.1 = p ∧ r.2.2 = 0 ∧ m ≤ r.2.1 ∧ r.2.1 ≤ m + c ∧ Down f p r.2.1
  | 0, m, _, _, u => ⟨rfl, rfl, Nat.le_refl _, Nat.le_refl _, u⟩
  | c + 1, m, h1, hm, u => by
    refine ⟨hp.lt (by omega), hp.lt (by omega), fun e => ?_, ?_⟩
    · have := hp.inj (by omega) (by omega) e
      omega
    cases h : f (p.getD m 0) (p.getD (m - 1) 0) with
    | true =>
      show Wp f n (kas_desc c p (m + 1) 0) _
      refine (desc T hp c (m + 1) (by omega) (by omega) (u.more T hp (by omega) (by omega) h)).mono fun r q => ?_
      exact ⟨q.1, q.2.1, by omega, by omega, q.2.2.2.2⟩
    | false =>
      have h' := T.tot _ _ (hp.lt (by omega)) (hp.lt (by omega)) (fun e => by have := hp.inj (by omega) (by omega) e; omega) h
      refine ⟨hp.lt (by omega), hp.lt (by omega), fun e => ?_, ?_⟩
      · have := hp.inj (by omega) (by omega) e
        omega
      rw [h']
      exact ⟨rfl, rfl, Nat.le_refl _, Nat.le_add_right _ _, u⟩
theorem getD_of {q : Array Nat} {a b : Nat} (e : q[a]? = p[b]?) : q.getD a 0 = p.getD b 0 := by
  rw [Array.getD_eq_getD_getElem?, Array.getD_eq_getD_getElem?, e]
theorem rev_at (hp : P n p) {m : Nat} (hm : m ≤ n) (k : Nat) : (kas_rev p 0 m).getD k 0 = if k < m then p.getD (m - 1 - k) 0 else p.getD k 0 := by
  have h := getElem?_mirror_all (xs := p) (i := 0) (j := m) (by rw [hp.size]; exact hm) k
  by_cases hk : k < m
  · rw [if_pos hk]
    rw [if_pos ⟨Nat.zero_le _, hk⟩] at h
    refine getD_of (h.trans ?_)
    congr 1
    omega
  · rw [if_neg hk]
    rw [if_neg (by omega)] at h
    exact getD_of h
theorem rev_P (hp : P n p) (m : Nat) : P n (kas_rev p 0 m) := (Array.perm_iff_toList_perm.mp (mirror_perm p 0 m _)).trans hp
theorem rev_up (hp : P n p) {m : Nat} (hm : m ≤ n) (d : Down f p m) : Up f (kas_rev p 0 m) m := by
  intro a b ab bm
  rw [rev_at hp hm, rev_at hp hm, if_pos (by omega), if_pos bm]
  exact d _ _ (by omega) (by omega)
theorem tail3 (T : Tot f n) (hp : P n p) {m : Nat} (h1 : 1 ≤ m) (hm : m ≤ n) (d : Down f p m) : Wp f n (kas_tail3 m n p) fun r => 1 ≤ r.1 ∧ r.1 ≤ n ∧ P n r.2 ∧ Up f r.2 r.1 := by
  refine Wp.bind ((asc T (rev_P hp m) (n - m) m h1 (by omega) (rev_up hp hm d)).mono fun r q => ?_)
  exact ⟨by omega, by omega, rev_P hp m, q.2.2.1⟩
theorem count (T : Tot f n) (hp : P n p) (h1 : 1 ≤ n) : Wp f n (kas_count n p) fun r => 1 ≤ r.1 ∧ r.1 ≤ n ∧ P n r.2 ∧ Up f r.2 r.1 := by
  refine Wp.bind ((asc T hp (n - 1) 1 (Nat.le_refl _) (by omega) (fun a b ab hb => absurd hb (by omega))).mono fun m q => ?_)
  obtain ⟨q1, q2, q3, q4⟩ := q
  by_cases e : m = n
  · rw [if_pos (by simp [e])]
    exact ⟨q1, by omega, hp, q3⟩
  · rw [if_neg (by simp [e])]
    by_cases e2 : m > 1
    · rw [if_pos e2]
      refine ⟨hp.lt (by omega), hp.lt (by omega), fun z => ?_, ?_⟩
      · have := hp.inj (by omega) (by omega) z
        omega
      rw [q3 0 (m - 1) (by omega) (by omega)]
      exact ⟨q1, by omega, hp, q3⟩
    · rw [if_neg e2]
      have e3 : m = 1 := by omega
      subst e3
      have h := q4 (by omega)
      have d2 : Down f p 2 := fun a b ab hb => by
        have ea : a = 0 := by omega
        have eb : b = 1 := by omega
        subst ea eb
        exact h
      refine Wp.bind ((desc T hp (n - 2) 2 (Nat.le_refl _) (by omega) d2).mono fun r q => ?_)
      obtain ⟨r1, r2, r3, r4, r5⟩ := q
      rw [if_neg (by omega), r1]
      exact tail3 T hp (by omega) (by omega) r5
theorem place (T : Tot f n) (hp : P n p) {k : Nat} (hk : k < n) (u : Up f p k) : ∀ (c l r : Nat), l ≤ r → r ≤ k → r - l ≤ c → (∀ i, i < l → f (p.getD i 0) (p.getD k 0) = true) → (∀ i, r ≤ i → i < k → f (p.getD k 0) (p.getD i 0) = true) →
    Wp f n (kas_place p k c l r) fun q => q ≤ k ∧ (∀ i, i < q → f (p.getD i 0) (p.getD k 0) = true) ∧ (∀ i, q ≤ i → i < k → f (p.getD k 0) (p.getD i 0) = true)
  | 0, l, r, h1, h2, h3, h4, h5 => ⟨by omega, h4, fun i a b => h5 i (by omega) b⟩
  | c + 1, l, r, h1, h2, h3, h4, h5 => by
    show Wp f n (if l ≥ r then .ret l else _) _
    by_cases e : l ≥ r
    · rw [if_pos e]
      exact ⟨by omega, h4, fun i a b => h5 i (by omega) b⟩
    · rw [if_neg e]
      refine ⟨hp.lt hk, hp.lt (by omega), fun z => ?_, ?_⟩
      · have := hp.inj hk (by omega) z
        omega
      cases h : f (p.getD k 0) (p.getD ((l + r) / 2) 0) with
      | true =>
        show Wp f n (kas_place p k c l ((l + r) / 2)) _
        refine place T hp hk u c l _ (by omega) (by omega) (by omega) h4 fun i a b => ?_
        by_cases ei : i = (l + r) / 2
        · rw [ei]
          exact h
        · exact T.tr _ _ _ (hp.lt hk) (hp.lt (by omega)) (hp.lt (by omega)) h (u _ _ (by omega) b)
      | false =>
        have h' := T.tot _ _ (hp.lt hk) (hp.lt (by omega)) (fun z => by have := hp.inj hk (by omega) z; omega) h
        show Wp f n (kas_place p k c ((l + r) / 2 + 1) r) _
        refine place T hp hk u c _ r (by omega) h2 (by omega) (fun i a => ?_) h5
        by_cases ei : i = (l + r) / 2
        · rw [ei]
          exact h'
        · exact T.tr _ _ _ (hp.lt (by omega)) (hp.lt (by omega)) (hp.lt hk) (u _ _ (by omega) (by omega)) h'
theorem bubble_at (hp : P n p) {k l : Nat} (hk : k < n) (hl : l ≤ k) (i : Nat) : (bubble p k (k - l)).getD i 0 = if i = l then p.getD k 0 else if l < i ∧ i ≤ k then p.getD (i - 1) 0 else p.getD i 0 := by
  have h := getElem?_bubble (xs := p) (src := k) (by rw [hp.size]; exact hk) (k - l) (by omega) i
  rw [show k - (k - l) = l by omega] at h
  by_cases e : i = l
  · rw [if_pos e] at h ⊢
    exact getD_of h
  · rw [if_neg e] at h ⊢
    by_cases e2 : l < i ∧ i ≤ k
    · rw [if_pos e2] at h ⊢
      exact getD_of h
    · rw [if_neg e2] at h ⊢
      exact getD_of h
theorem bubble_up (hp : P n p) {k l : Nat} (hk : k < n) (hl : l ≤ k) (u : Up f p k) (h1 : ∀ i, i < l → f (p.getD i 0) (p.getD k 0) = true) (h2 : ∀ i, l ≤ i → i < k → f (p.getD k 0) (p.getD i 0) = true) : Up f (bubble p k (k - l)) (k + 1) := by
  intro a b ab bm
  rw [bubble_at hp hk hl, bubble_at hp hk hl]
  by_cases ea : a = l
  · rw [if_pos ea, if_neg (by omega), if_pos ⟨by omega, by omega⟩]
    exact h2 _ (by omega) (by omega)
  · rw [if_neg ea]
    by_cases eb : b = l
    · rw [if_neg (by omega), if_pos eb]
      exact h1 _ (by omega)
    · rw [if_neg eb]
      by_cases e1 : l < a ∧ a ≤ k
      · rw [if_pos e1, if_pos ⟨by omega, by omega⟩]
        exact u _ _ (by omega) (by omega)
      · rw [if_neg e1]
        by_cases e2 : l < b ∧ b ≤ k
        · rw [if_pos e2]
          exact u _ _ (by omega) (by omega)
        · rw [if_neg e2]
          exact u _ _ ab (by omega)
theorem bubble_P (hp : P n p) (k d : Nat) : P n (bubble p k d) := (Array.perm_iff_toList_perm.mp (bubble_perm p k d)).trans hp
end
theorem bin {f : Nat → Nat → Bool} {n : Nat} (T : Tot f n) : ∀ (c : Nat) (p : Array Nat) (k : Nat), P n p → k + c ≤ n → Up f p k → Wp f n (kas_bin c p k) fun r => P n r ∧ Up f r (k + c)
  | 0, p, k, hp, _, u => ⟨hp, u⟩
  | c + 1, p, k, hp, hk, u => by
    refine Wp.bind ((place T hp (k := k) (by omega) u k 0 k (Nat.zero_le _) (Nat.le_refl _) (by omega) (fun i h => absurd h (by omega)) (fun i a b => absurd b (by omega))).mono fun l q => ?_)
    refine (bin T c _ (k + 1) (bubble_P hp k _) (by omega) (bubble_up hp (by omega) q.1 u q.2.1 q.2.2)).mono fun r q => ?_
    rw [show k + 1 + c = k + (c + 1) by omega] at q
    exact q
theorem range_P (n : Nat) : P n (List.toArray (List.range n)) := by
  unfold P
  rw [List.toList_toArray]
theorem sort {f : Nat → Nat → Bool} {n : Nat} (T : Tot f n) (h1 : 1 ≤ n) : Wp f n (kas_sort n) fun r => P n r ∧ Up f r n := by
  refine Wp.bind ((count T (range_P n) h1).mono fun r q => ?_)
  obtain ⟨q1, q2, q3, q4⟩ := q
  by_cases e : r.1 < n
  · rw [if_pos e]
    refine (bin T _ _ _ q3 (by omega) (by rw [show max r.1 1 = r.1 by omega]; exact q4)).mono fun z q => ?_
    rw [show max r.1 1 + (n - max r.1 1) = n by omega] at q
    exact q
  · rw [if_neg e]
    exact ⟨q3, by rw [show n = r.1 by omega]; exact q4⟩
end SortT
namespace L2
open PySem PySem.Spec PyProof.Rows PySem.W
section
variable {prog : Program} {w : World} {A : Around} {E : Value → Shared → Prop} {s : Shared}
/-- the order of two rows of ints, item by item -/
theorem lex_ints {Q : Bool → Shared → Prop} : ∀ {vs us : List Value} {ns ms : List Int} (i : Nat), IntsAre vs ns → IntsAre us ms → Q (HT.lexLt ns ms) s → KatLex prog w A true (decide (ns.length < ms.length)) Q (vs.zip us) i s
  | [], [], [], [], _, _, _, q => kat_nil (by simpa [HT.lexLt] using q)
  | [], _ :: _, [], _ :: _, _, _, _, q => kat_nil (by simpa [HT.lexLt] using q)
  | _ :: _, [], _ :: _, [], _, _, _, q => kat_nil (by simpa [HT.lexLt] using q)
  | _ :: vs, _ :: us, n :: ns, m :: ms, i, .cons _ t hv, .cons _ t' hu, q => by
    rw [HT.lexLt_cons] at q
    refine kat_cons (wpAny_eqBool_int (kat_go (fun e => ?_) fun e => ?_))
    · have e' : n = m := by simpa using e
      rw [if_pos e'] at q
      refine kat_yes ?_
      show KatLex prog w A true _ Q (vs.zip us) (i + 1) s
      have h := lex_ints (i + 1) hv hu q
      rw [show decide ((n :: ns).length < (m :: ms).length) = decide (ns.length < ms.length) by simp]
      exact h
    · have e' : ¬ n = m := by simpa using e
      rw [if_neg e'] at q
      refine kat_no ?_
      cases i with
      | zero => exact oneLt_int q
      | succ i => exact kat_one _ _ (PyProof.Rows.lt_int q)
/-- list.sort of fewer than 64 things: what the questions find decides -/
theorem sort_any {a : Addr} {vs : List Value} {n : Nat} {R : PySem.Fin → Shared → Prop} {Good : Array Nat → Prop} (ho : s.heap.get? a = some (seqObj "list" vs.toArray n)) (h64 : vs.length < 64)
    (ask : 2 ≤ vs.length → ∀ s' : Shared, (∀ b o, b ≠ a → s.heap.get? b = some o → s'.heap.get? b = some o) →
      wpAny (model prog w) A (keyKind' vs.toArray) (fun κ s1 => s1 = s' ∧ (kas_sort vs.length).kasWp (kas_ask prog w A κ vs) (fun p s2 => s2 = s' ∧ Good p) s') (fun _ _ => False) s')
    (one : vs.length < 2 → R (.done (.ret .none)) { s with heap := sortedHeap s.heap a vs vs.toArray })
    (more : ∀ p : Array Nat, p.size = vs.length → Good p → R (.done (.ret .none)) { s with heap := sortedHeap s.heap a vs (List.toArray (p.toList.map fun i => vs.getD i Value.none)) }) :
    wpAny (model prog w) A (Builtin.«list.sort» ⟨[.ref a], []⟩) R E s := by
  have big : (64 : Nat) ≤ sizeLine := by decide
  obtain ⟨e1, ho1⟩ : ∃ e1, (s.heap.update a (Obj.mapSeq fun _ => #[])).get? a = some (seqObj "list" #[] e1) := ⟨_, get?_update_seq ho (fun _ => #[])⟩
  have la : a < (s.heap.update a (Obj.mapSeq fun _ => (#[] : Array Value))).objs.size := Heap.lt_size ho1
  have ho6 := Heap.get?_push_of_some (seqObj "list" #[] 0) (Heap.get?_push_of_some (seqObj "tuple" vs.toArray 0) ho1)
  have old : ∀ b o, b ≠ a → s.heap.get? b = some o → (((s.heap.update a (Obj.mapSeq fun _ => #[])).push (seqObj "tuple" vs.toArray 0)).push (seqObj "list" #[] 0)).get? b = some o := fun b o hb e =>
    Heap.get?_push_of_some _ (Heap.get?_push_of_some _ ((Heap.get?_update_ne _ _ _ _ hb).trans e))
  rw [list_sort_plain]
  refine wpAny_bind (listItems_at ho rfl (wpAny_bind (listUpdate_at ho rfl (wpAny_bind (seqEpoch_at ho1 rfl (wpAny_bind (wpAny_newTuple (wpAny_bind (wpAny_newList (wpAny_holding ?_) (Nat.zero_le _))) (by show vs.length ≤ _; omega))))) (by show vs.toArray.size ≤ _; simp; omega) (Nat.zero_le _))))
  by_cases h2 : vs.length < 2
  · have h2' : vs.toArray.size < 2 := by simpa using h2
    have e : ((vs.toArray.zip vs.toArray).map fun x : Value × Value => x.2) = vs.toArray := by
      apply Array.toList_inj.mp
      simp
      exact List.map_snd_zip (Nat.le_refl _)
    dsimp only
    rw [if_pos h2', if_pos h2']
    refine wpAny_bind (wpAny_pure ?_)
    rw [StateT.run_pure]
    refine wpAny_bind (wpAny_pure (wpAny_bind (seqEpoch_at ho6 rfl (wpAny_bind (listUpdate_at ho6 rfl ?_ (Nat.zero_le _) ?_)))))
    · simp only [bne_self_eq_false, Bool.false_eq_true, if_false]
      have q := one h2
      rw [← e] at q
      exact wpAny_pure q
    · show ((vs.toArray.zip vs.toArray).map fun x : Value × Value => x.2).size ≤ _
      rw [e]
      simp
      omega
  · have h2' : ¬ vs.toArray.size < 2 := by simpa using h2
    dsimp only
    rw [if_neg h2', if_neg h2']
    refine wpAny_bind (wpAny_mono (ask (by omega) _ old) (fun κ s1 hk => ?_) fun _ _ z => z.elim)
    obtain ⟨rfl, hk⟩ := hk
    refine wpAny_bind (wpAny_mono (kat_run (ks := vs) (vs := vs) (Q := fun st' s2 => ∃ p : Array Nat, p.size = vs.length ∧ arrOf st' = p.map (kas_item (vs.toArray.zip vs.toArray)) ∧ failedOf st' = none ∧ s2 = _ ∧ Good p) rfl (by omega) h64 (fun p st' s2 a1 a2 a3 a4 => ⟨p, a1, a2, a3, a4⟩) hk) ?_ fun _ _ z => z)
    rintro ⟨⟨⟩, st⟩ s2 ⟨p, hp, har, hf, rfl, good⟩
    have e := kat_snds (ks := vs) (vs := vs) rfl har
    dsimp only
    rw [e]
    refine wpAny_bind (seqEpoch_at ho6 rfl (wpAny_bind (listUpdate_at ho6 rfl ?_ (Nat.zero_le _) ?_)))
    · rw [hf]
      simp only [bne_self_eq_false, Bool.false_eq_true, if_false]
      exact wpAny_pure (more p hp good)
    · rw [List.size_toArray, List.length_map, Array.length_toList, hp]
      omega
/-- sorted(xs) of fewer than 64 things -/
theorem sorted_any {l : Addr} {vs : List Value} {Q : Value → Shared → Prop} {Good : Array Nat → Prop} (hl : s.heap.IsList l vs.toArray) (h64 : vs.length < 64)
    (ask : 2 ≤ vs.length → ∀ s' : Shared, (∀ b o, s.heap.get? b = some o → s'.heap.get? b = some o) →
      wpAny (model prog w) A.in1.in1 (keyKind' vs.toArray) (fun κ s1 => s1 = s' ∧ (kas_sort vs.length).kasWp (kas_ask prog w A.in1.in1 κ vs) (fun p s2 => s2 = s' ∧ Good p) s') (fun _ _ => False) s')
    (one : vs.length < 2 → Q (.ref (s.heap.objs.size + 1)) { s with heap := sortedAll s.heap vs vs.toArray })
    (more : ∀ p : Array Nat, p.size = vs.length → Good p → Q (.ref (s.heap.objs.size + 1)) { s with heap := sortedAll s.heap vs (List.toArray (p.toList.map fun i => vs.getD i Value.none)) }) :
    wpAny (model prog w) A (call (.builtin "sorted") [.ref l]) Q E s := by
  have big : (64 : Nat) ≤ sizeLine := by decide
  have sz : ((s.heap.push (seqObj "list" #[] 0)).update s.heap.objs.size (Obj.mapSeq (· ++ vs.toArray))).objs.size = s.heap.objs.size + 1 := (Heap.size_update ..).trans (size_push' ..)
  have at1 : (((s.heap.push (seqObj "list" #[] 0)).update s.heap.objs.size (Obj.mapSeq (· ++ vs.toArray))).push (seqObj "list" vs.toArray 0)).get? (s.heap.objs.size + 1) = some (seqObj "list" vs.toArray 0) := sz ▸ Heap.get?_push_size _ rfl
  have old : ∀ b o, s.heap.get? b = some o → (((s.heap.push (seqObj "list" #[] 0)).update s.heap.objs.size (Obj.mapSeq (· ++ vs.toArray))).push (seqObj "list" vs.toArray 0)).get? b = some o := fun b o e =>
    Heap.get?_push_of_some _ ((Heap.get?_update_ne _ _ _ _ (Nat.ne_of_lt (Heap.lt_size e))).trans (Heap.get?_push_of_some _ e))
  have body := sort_any (prog := prog) (w := w) (A := A.in1.in1) (E := E) (a := s.heap.objs.size + 1) (Good := Good) (R := fun f s' => f = .done (.ret .none) ∧ Q (.ref (s.heap.objs.size + 1)) s')
    (s := { s with heap := ((s.heap.push (seqObj "list" #[] 0)).update s.heap.objs.size (Obj.mapSeq (· ++ vs.toArray))).push (seqObj "list" vs.toArray 0) }) at1 h64
    (fun h2 s' k => ask h2 s' fun b o e => k b o (Nat.ne_of_lt (Nat.lt_succ_of_lt (Heap.lt_size e))) (old b o e)) (fun h => ⟨rfl, one h⟩) (fun p hp g => ⟨rfl, more p hp g⟩)
  refine Calls.call_function_entry kind_sorted plain_sorted entry_sorted (args_sorted1 _) ?_
  show wpAny (model prog w) A.in1 (do checkCount "sorted" 1 1 _; _) _ _ s
  refine wpAny_bind (m := checkCount "sorted" 1 1 _) (wpAny_pure (wpAny_bind (collect_list hl (wpAny_bind (wpAny_newList ?_ (by omega))) (by omega))))
  show wpAny (model prog w) A.in1 _ _ E { s with heap := ((s.heap.push (seqObj "list" #[] 0)).update s.heap.objs.size (Obj.mapSeq (· ++ vs.toArray))).push (seqObj "list" vs.toArray 0) }
  rw [sz]
  exact wpAny_bind (wpAny_holding (wpAny_call_entry slot_list_sort ⟨_, at1, rfl⟩ entry_list_sort (wpAny_mono body (fun f s' z => ⟨_, z.1, wpAny_pure ⟨_, rfl, z.2⟩⟩) fun _ _ z => z) (args_list_sort _)))
end
theorem lex_asy : ∀ {a b : List Int}, HT.lexLt a b = true → HT.lexLt b a = false
  | [], [], h => by cases h
  | [], _ :: _, _ => rfl
  | _ :: _, [], h => by cases h
  | x :: a, y :: b, h => by
    rw [HT.lexLt_cons] at h ⊢
    by_cases e : x = y
    · rw [if_pos e] at h
      rw [if_pos e.symm]
      exact lex_asy h
    · rw [if_neg e] at h
      rw [if_neg (fun z => e z.symm)]
      have := of_decide_eq_true h
      exact decide_eq_false (by omega)
theorem lex_tot : ∀ {a b : List Int}, a ≠ b → HT.lexLt a b = false → HT.lexLt b a = true
  | [], [], h, _ => absurd rfl h
  | [], _ :: _, _, h => by cases h
  | _ :: _, [], _, _ => rfl
  | x :: a, y :: b, h, h' => by
    rw [HT.lexLt_cons] at h' ⊢
    by_cases e : x = y
    · subst e
      rw [if_pos rfl] at h' ⊢
      exact lex_tot (fun z => h (by rw [z])) h'
    · rw [if_neg e] at h'
      rw [if_neg (fun z => e z.symm)]
      have := of_decide_eq_false h'
      exact decide_eq_true (by omega)
theorem lex_tr : ∀ {a b c : List Int}, HT.lexLt a b = true → HT.lexLt b c = true → HT.lexLt a c = true
  | [], [], _, h, _ => by cases h
  | [], _ :: _, [], _, h => by cases h
  | [], _ :: _, _ :: _, _, _ => rfl
  | _ :: _, [], _, h, _ => by cases h
  | _ :: _, _ :: _, [], _, h => by cases h
  | x :: a, y :: b, z :: c, h, h' => by
    rw [HT.lexLt_cons] at h h' ⊢
    by_cases e : x = y
    · subst e
      rw [if_pos rfl] at h
      by_cases e2 : x = z
      · rw [if_pos e2] at h' ⊢
        exact lex_tr h h'
      · rw [if_neg e2] at h' ⊢
        exact h'
    · rw [if_neg e] at h
      have h1 := of_decide_eq_true h
      by_cases e2 : y = z
      · subst e2
        rw [if_neg e]
        exact h
      · rw [if_neg e2] at h'
        have h2 := of_decide_eq_true h'
        rw [if_neg (by omega)]
        exact decide_eq_true (by omega)
theorem wp_ask {f : Nat → Nat → Bool} {n : Nat} {s : Shared} {cmp : Nat → Nat → (Bool → Shared → Prop) → Shared → Prop} {α : Type} {R : α → Prop} (hc : ∀ i j C, i < n → j < n → C (f i j) s → cmp i j C s) :
    ∀ {t : KasT α}, SortT.Wp f n t R → t.kasWp cmp (fun p s2 => s2 = s ∧ R p) s
  | .ret _, h => ⟨rfl, h⟩
  | .ask i j _, ⟨a, b, _, h⟩ => hc i j _ a b (wp_ask hc h)
theorem range_getD {α : Type} (d : α) (l : List α) : (List.range l.length).map (fun i => l.getD i d) = l := by
  apply List.ext_getElem
  · simp
  · intro i h1 h2
    simp [h2]
section
variable {X : Cx} {pins : List (Addr × Obj)} {σ : St} {H : Hp} {s : Shared}
theorem paired_at {α β : Type} {F : α → β → Prop} {d : α} {e : β} : ∀ {xs : List α} {ys : List β} {i : Nat}, Paired F xs ys → i < xs.length → F (xs.getD i d) (ys.getD i e)
  | _, _, _, .nil, h => absurd h (Nat.not_lt_zero _)
  | _, _, 0, .cons h _, _ => h
  | _, _, i + 1, .cons _ r, h => paired_at (i := i) r (by simpa using h)
theorem paired_pick {α β : Type} {F : α → β → Prop} {d : α} {e : β} {xs : List α} {ys : List β} (h : Paired F xs ys) : ∀ {l : List Nat}, (∀ i ∈ l, i < xs.length) → Paired F (l.map fun i => xs.getD i d) (l.map fun i => ys.getD i e)
  | [], _ => .nil
  | i :: l, q => .cons (paired_at h (q i (by simp))) (paired_pick h fun j hj => q j (by simp [hj]))
/-- a list's items are tuples of ints -/
def TupsAt (K : PySem.W.Frag) (H : Hp) (vs : List V) (ts : List (List Int)) : Prop := Paired (fun v t => ∃ a, v = .ref a ∧ SqT K H a (t.map V.int)) vs ts
theorem fsts : ∀ {h : Heap} {its : List Value} {ts : List (List Int)}, Paired (fun u t => ∃ a xs, u = Value.ref a ∧ IsTup h a xs ∧ IntsAre xs.toList t) its ts → (∀ t ∈ ts, t ≠ []) → ∃ fs, KatTups h its fs ∧ fs.length = its.length ∧ ∀ v ∈ fs, ∃ i k, v = Value.int i k
  | _, _, _, .nil, _ => ⟨[], KatTups.nil, rfl, fun _ z => by cases z⟩
  | h, _, t :: ts, .cons ⟨a, xs, e, ⟨o, ho, hc, n, hd⟩, hi⟩ r, ne => by
    subst e
    obtain ⟨fs, k, l, q⟩ := fsts r fun z hz => ne z (by simp [hz])
    obtain ⟨x, hx⟩ : ∃ x r, xs.toList = x :: r := by
      cases hxs : xs.toList with
      | nil =>
        rw [hxs] at hi
        cases hi
        exact absurd rfl (ne [] (by simp))
      | cons x r => exact ⟨x, r, rfl⟩
    obtain ⟨rr, hx⟩ := hx
    have h0 : xs[0]? = some x := by rw [← Array.getElem?_toList, hx]; rfl
    rw [hx] at hi
    refine ⟨x :: fs, KatTups.cons ho hc hd h0 k, by simp [l], fun v hv => ?_⟩
    rcases List.mem_cons.mp hv with rfl | hv
    · cases hi with
      | cons i k _ => exact ⟨i, k, rfl⟩
    · exact q v hv
theorem paired_two {α β γ : Type} {F : α → β → Prop} {G : α → γ → Prop} {L : β → γ → Prop} (h : ∀ v u t, F v u → G v t → L u t) : ∀ {vs : List α} {us : List β} {ts : List γ}, Paired F vs us → Paired G vs ts → Paired L us ts
  | _, _, _, .nil, .nil => .nil
  | _, _, _, .cons a r, .cons b q => .cons (h _ _ _ a b) (paired_two h r q)
theorem lex_order {ts : List (List Int)} (nd : ts.Nodup) : SortT.Tot (fun i j => HT.lexLt (ts.getD i []) (ts.getD j [])) ts.length where
  tot := fun i j hi hj ne h => lex_tot (fun e => ne (by
    rw [List.getD_eq_getElem?_getD, List.getD_eq_getElem?_getD, List.getElem?_eq_getElem hi, List.getElem?_eq_getElem hj] at e
    exact (List.getElem_inj nd).mp e)) h
  asy := fun _ _ _ _ h => lex_asy h
  tr := fun _ _ _ _ _ _ h1 h2 => lex_tr h1 h2
theorem ints_len : ∀ {vs : List Value} {ns : List Int}, IntsAre vs ns → vs.length = ns.length
  | _, _, .nil => rfl
  | _, _, .cons _ _ r => by rw [List.length_cons, List.length_cons, ints_len r]
/-- sorted(xs), xs a list of unlike tuples of ints, fewer than 64 -/
theorem call_sortedTX : CallR X (.builtin "sorted") (fun xs H Q => ∃ (p : Addr) (vs : List V) (ts : List (List Int)), xs = [.ref p] ∧ SqL X.K H p vs ∧ TupsAt X.K H vs ts ∧ vs.length < 64 ∧ ts.Nodup ∧ (∀ t ∈ ts, t ≠ []) ∧
    ∀ (q : Addr) (vs' : List V) (ts' : List (List Int)) (ix : List Nat), H q = none → ix.Perm (List.range vs.length) → vs' = ix.map (fun i => vs.getD i .non) → ts' = ix.map (fun i => ts.getD i []) → vs'.Perm vs → ts'.Perm ts → TupsAt X.K H vs' ts' → ts'.Pairwise (fun a b => HT.lexLt a b = true) → Q (.ref q) (upd H q (.lst vs'))) := by
  intro pins s σ H xs us Q I r h
  obtain ⟨p, vs, ts, rfl, hq, ht, h64, nd, ne, q⟩ := h
  obtain ⟨u, rfl, rx⟩ := vals1 r
  cases rx
  obtain ⟨its, r', pl, hz⟩ := I.list hq
  have l1 : vs.length = its.length := r'.length
  have l2 : vs.length = ts.length := Paired.length ht
  have hn : H (s.heap.objs.size + 1) = none := I.hok.fresh (Nat.le_succ _)
  have end_ : ∀ (out : List Value) (vs' : List V) (ts' : List (List Int)) (ix : List Nat), ix.Perm (List.range vs.length) → vs' = ix.map (fun i => vs.getD i .non) → ts' = ix.map (fun i => ts.getD i []) → Vals vs' out → vs'.Perm vs → ts'.Perm ts → TupsAt X.K H vs' ts' → ts'.Pairwise (fun a b => HT.lexLt a b = true) →
      EP X pins σ Q (.ref (s.heap.objs.size + 1)) { s with heap := sortedAll s.heap its out.toArray } := fun out vs' ts' ix b1 b2 b3 a1 a2 a3 a4 a5 => by
    obtain ⟨e, he⟩ := sortedAll_at s.heap its out.toArray
    refine ⟨.ref (s.heap.objs.size + 1), _, I.laid (a := s.heap.objs.size + 1) (o := .lst vs') (t' := s.toks) (fun b o z => sortedAll_old z) (Nat.le_succ _) ⟨?_, out, e, a1, he⟩, rfl, q _ vs' ts' ix hn b1 b2 b3 a2 a3 a4 a5⟩
    rw [a2.length_eq]
    exact hz
  have tt : Paired (fun u t => ∃ a xs, u = Value.ref a ∧ IsTup s.heap a xs ∧ IntsAre xs.toList t) its ts := paired_two (fun v u t hv hu => by
    obtain ⟨a, rfl, ha⟩ := hu
    cases hv
    obtain ⟨ys, ry, hy, _⟩ := I.tuple ha
    exact ⟨a, ys.toArray, rfl, hy, intsAre_of ry⟩) r' ht
  refine sorted_any pl.isList (by omega) (Good := fun p => SortT.P its.length p ∧ SortT.Up (fun i j => HT.lexLt (ts.getD i []) (ts.getD j [])) p its.length) (fun h2 s' k => ?_) (fun h => ?_) (fun p hp g => ?_)
  · have tt' : Paired (fun u t => ∃ a xs, u = Value.ref a ∧ IsTup s'.heap a xs ∧ IntsAre xs.toList t) its ts := Paired.mapP tt fun u t ⟨a, xs, e, ⟨o, ho, hr⟩, hi⟩ => ⟨a, xs, e, ⟨o, k a o ho, hr⟩, hi⟩
    obtain ⟨fs, kt, lf, hf⟩ := fsts tt' ne
    refine kat_kind (T := Value.type "int") kt (by omega) (fun v hv => ?_) rfl ⟨rfl, ?_⟩
    · obtain ⟨i, t, rfl⟩ := hf v hv
      exact .now
    have hs := SortT.sort (lex_order nd) (by omega)
    rw [← l2, l1] at hs
    refine wp_ask (fun i j C hi hj c => ?_) hs
    obtain ⟨a, xs, ea, ⟨o, ho, hc, n, hd⟩, ia⟩ := paired_at (d := Value.none) (e := []) tt' hi
    obtain ⟨b, ys, eb, ⟨o', ho', hc', n', hd'⟩, ib⟩ := paired_at (d := Value.none) (e := []) tt' hj
    unfold kas_ask
    rw [ea, eb]
    have q := lex_ints (prog := X.prog) (w := X.w) (A := X.A.in1.in1) 0 ia ib c
    rw [← ints_len ia, ← ints_len ib] at q
    refine kat_lt ho hd ho' hd' ?_
    rw [show (Value.type "int" != Value.type "tuple") = true from rfl]
    simpa using q
  · refine end_ its vs ts (List.range vs.length) (List.Perm.refl _) (range_getD ..).symm (by rw [l2]; exact (range_getD ..).symm) r' (List.Perm.refl _) (List.Perm.refl _) ht ?_
    match ts, l2 with
    | [], _ => exact .nil
    | [_], _ => exact List.pairwise_singleton _ _
    | _ :: _ :: _, e => exact absurd e (by simp; omega)
  · obtain ⟨g1, g2⟩ := g
    have hm : ∀ i ∈ p.toList, i < vs.length := fun i hi => by
      rw [l1]
      exact List.mem_range.mp (g1.mem_iff.mp hi)
    refine end_ _ (p.toList.map fun i => vs.getD i .non) (p.toList.map fun i => ts.getD i []) p.toList (by rw [l1]; exact g1) rfl rfl (paired_pick r' hm) ?_ ?_ (paired_pick ht hm) ?_
    · refine (g1.map _).trans ?_
      rw [← l1, range_getD]
    · refine (g1.map _).trans ?_
      rw [← l1, l2, range_getD]
    · rw [List.pairwise_map, List.pairwise_iff_getElem]
      intro i j hi hj ij
      have hj' : j < its.length := by rw [Array.length_toList, hp] at hj; exact hj
      have := g2 i j ij hj'
      rw [SortT.getD_eq (by rw [hp]; omega), SortT.getD_eq (by rw [hp]; omega)] at this
      simpa using this
end
end L2
/-! OWN RULES: a tuple of ints in a list of such -/
namespace L2
open PySem PySem.Spec PyProof.Rows
/-- a tuple of these ints -/
def TupI (K : PySem.W.Frag) (H : Hp) (x : V) (ns : List Int) : Prop := ∃ a, x = .ref a ∧ SqT K H a (ns.map V.int)
noncomputable def isT (K : PySem.W.Frag) (H : Hp) (n : List Int) (u : Value) : Bool := @decide (∃ a, u = .ref a ∧ SqT K H a (n.map V.int)) (Classical.propDecidable _)
theorem map_int_inj {ns ms : List Int} (h : ns.map V.int = ms.map V.int) : ns = ms := by
  induction ns generalizing ms with
  | nil => cases ms with
    | nil => rfl
    | cons _ _ => cases h
  | cons n ns ih => cases ms with
    | nil => cases h
    | cons m ms =>
      rw [List.map_cons, List.map_cons] at h
      injection h with h1 h2
      injection h1 with h1
      rw [h1, ih h2]
section
variable {X : Cx} {pins : List (Addr × Obj)} {σ : St} {H : Hp} {s : Shared}
theorem isT_is (I : Inv X pins σ H s) {x : V} {u : Value} {ns n : List Int} (h : TupI X.K H x ns) (r : RelV x u) : isT X.K H n u = decide (ns = n) := by
  obtain ⟨a, rfl, ha⟩ := h
  cases r
  unfold isT
  by_cases e : ns = n
  · subst e
    rw [decide_eq_true rfl]
    exact @decide_eq_true _ (Classical.propDecidable _) ⟨a, rfl, ha⟩
  · rw [decide_eq_false e]
    refine @decide_eq_false _ (Classical.propDecidable _) fun ⟨b, z, hb⟩ => ?_
    cases z
    exact e (map_int_inj (I.tuple_inj ha hb))
theorem tups_eqAt (I : Inv X pins σ H s) {A : Around} (hu : A.units + 60 < cLine) {x : V} {v : Value} {n : List Int} (hx : TupI X.K H x n) (rx : RelV x v) : ∀ {xs : List V} {us : List Value} {nss : List (List Int)}, Vals xs us → Paired (TupI X.K H) xs nss → ∀ u ∈ us, SeqAt.EqAt A s u v (isT X.K H n u)
  | _, _, _, .nil, _ => fun u hu => by cases hu
  | y :: xs, w :: us, m :: nss, .cons r t, .cons h hs => fun u hm => by
    rcases List.mem_cons.mp hm with rfl | hm
    · rw [isT_is I h r]
      obtain ⟨a, rfl, ha⟩ := h
      obtain ⟨b, rfl, hb⟩ := hx
      have q := eqAt_D I 60 (.tup (m.map Dt.int)) (.tup (n.map Dt.int)) (.ref a) (.ref b) u v A (dep_tupI _) hu (hasD_tupI ha) (hasD_tupI hb) r rx
      rw [eqD_tupI] at q
      exact q
    · exact tups_eqAt I hu hx rx t hs u hm
theorem tups_any (I : Inv X pins σ H s) {n : List Int} : ∀ {xs : List V} {us : List Value} {nss : List (List Int)}, Vals xs us → Paired (TupI X.K H) xs nss → us.any (isT X.K H n) = decide (n ∈ nss)
  | _, _, _, .nil, .nil => by simp
  | y :: xs, w :: us, m :: nss, .cons r t, .cons h hs => by
    rw [List.any_cons, isT_is I h r, tups_any I t hs]
    by_cases e : m = n
    · subst e; simp
    · have e' : ¬ n = m := fun z => e z.symm
      simp [e, e']
def rInT (K : PySem.W.Frag) (neg : Bool) : R2 := fun x y H Q => ∃ p xs n nss, y = .ref p ∧ SqL K H p xs ∧ TupI K H x n ∧ Paired (TupI K H) xs nss ∧ Q (.bl (if neg then !decide (n ∈ nss) else decide (n ∈ nss))) H
end
section
variable {X : Cx}
theorem op_notInT (hu : X.A.units + 64 < cLine) : OpR X (compareOp .NotIn) (rInT X.K true) := by
  intro pins s σ H x y v u Q I rx ry h
  obtain ⟨p, xs, n, nss, rfl, hq, hx, hs, q⟩ := h
  cases ry
  obtain ⟨its, r, pl, hz⟩ := I.list hq
  refine SeqAt.notIn_listAt (isT X.K H n) pl.isList (fun w hw => tups_eqAt I ?_ hx rx r hs w (by simpa using hw)) ⟨.bl _, H, I, rfl, ?_⟩
  · first | (have e : X.A.in1.units = X.A.units + 1 := rfl; omega) | (have e : X.A.in1.units = X.A.units := rfl; omega) | (have e := Around.units_in1 X.A; omega)
  · rw [show its.toArray.any (isT X.K H n) = its.any (isT X.K H n) by simp, tups_any I r hs]
    exact q
end
end L2
/-! OWN RULES: a list comprehension whose element calls a def from which exceptions may leave (no names of the def around are used in it) -/
namespace L2
open PySem PySem.Spec PyProof.Rows
section
variable {X : Cx} {pins : List (Addr × Obj)} {σ : St} {H H' : Hp} {s s' : Shared} {ea : Addr} {cls : Value}
end
section
variable {X : Cx} {scope : Scope} {N' : List Str} {ix : List (Option Nat)} {C : Addr} {fp : List Addr} {s₂ : Shared} {H₂ : Hp} {pins : List (Addr × Obj)} {σ : St}
theorem blk_leave0 (I : Inv X pins σ H₂ s₂) (hf : ∀ b ∈ fp, FpOk X pins H₂ b) {ps : List (Addr × Obj)} {σ' : St} {H' : Hp} {s' : Shared} (I' : Inv (blk X scope N' C fp s₂ H₂) ps σ' H' s') : Inv X pins σ H' s' :=
  I.call' (ch := fp) I'.os I'.base I'.hok I'.bare fun b hb => by
    obtain ⟨_, f1, _, f3, f4, f5⟩ := hf b hb
    exact ⟨f3, f1, f4, f5⟩
end
section
variable {prog : Program} {w : World} {A : Around} {R : Result → Shared → Prop} {s : Shared}
end
section
variable {X : Cx} {scope : Scope} {N' : List Str} {ix : List (Option Nat)}
variable {tg iter elt : Expr} {ifs : List Expr} {pos : Pos} {wi : TI} {g : TG} {ti : TT} {te : TE} {W : Value → Hp → Prop}
end
end L2
/-! OWN RULES: {k: v for tg in iter if ..}; the dict that is made is tracked from the start -/
namespace L2
open PySem PySem.Spec PyProof.Rows
section
variable {X : Cx} {pins : List (Addr × Obj)} {σ : St} {H : Hp} {s : Shared} {a : Addr} {y v : V} {u r : Value} {A : Around} {E : Value → Shared → Prop}
/-- a dict's store, as a comprehension does it -/
theorem d_dictSet {H' : Hp} {Q : Unit → Shared → Prop} (hu : A.units < cLine) (I : Inv X pins σ H s) (g : DPut H a y v H') (ry : RelV y u) (rv : RelV v r) (h : ∀ s', Inv X pins σ H' s' → Q () s') : wpAny (model X.prog X.w) A (dictSet a u r) Q E s := by
  rcases g with ⟨kvs, k, e, ey, l, eH⟩ | ⟨kvs, k, b, e, ey, eb, l, eH⟩
  · subst ey eH
    obtain ⟨z, hd, vs, rel, dd⟩ := dk_of I.hok e
    have hz : vs.length ≤ sizeLine := by rw [← rel.length]; exact z
    have hl : (putK kvs k v).length ≤ sizeLine := by have := length_putK kvs k v; omega
    refine wpAny_dictSet_pairs (hsz := hz) (kV_is ry) dd fun h' dd' hs => h _ ?_
    have he : ∃ q, h'.get? a = some q := let ⟨q, _, _, hq, _⟩ := dd'; ⟨q, hq⟩
    exact d_write I (by rw [e]; exact True.intro) hs he (dk_new hl hd (rel.put k rv) dd')
  · subst ey eH
    cases (show u = Value.ref b from ry)
    obtain ⟨z, hd, xs, rel, dd⟩ := dt_of I.hok e
    have hz : xs.length ≤ sizeLine := by rw [← Paired.length rel]; exact z
    have hl : (putK kvs k v).length ≤ sizeLine := by have := length_putK kvs k v; omega
    refine wpAny_dictSet_heap (hsz := hz) (knd := tupleKind (mixKind X.prog X.w)) hu (key_of I.hok eb) dd fun h' dd' hs => h _ ?_
    obtain ⟨q, es, ep, hq, h2, h3, h4, _, h5⟩ := dd'
    refine d_write I (by rw [e]; exact True.intro) hs ⟨q, hq⟩ ⟨hl, hd, _, (rel.put k eb rv).keeps fun c ys ec => ?_, q, es, ep, hq, h2, h3, h4, h5⟩
    rw [upd_ne (ne_of ec e (fun z => nomatch z))]
    exact ec
end
section
variable {prog : Program} {w : World} {A : Around} {R : Result → Shared → Prop} {s : Shared}
/-- a dict comprehension's turns, with the step ahead of the store -/
theorem dcLoop_own {kx vx target iter : Expr} {ifs : List Expr} {scope : Scope} {pos : Pos} {it : Value} {D : Addr} {env : Env} (I : Nat → Shared → Prop)
    (turn : ∀ n s, I n s → wpAny (model prog w) A (pyNext it) (fun r s₁ => match r with
      | none => R (.ok .next) s₁
      | some v => wpAny (model prog w) A (letOwnedTupleGo target it v) (fun _ s₁ => wpAny (model prog w) A (assign target env v) (fun _ s₂ => wpAny (model prog w) A (forIn ifs true fun c r => if r = true then do let ok ← isTrue c env (eval c env); pure (ForInStep.yield ok) else pure (ForInStep.yield r)) (fun ok s₃ =>
            if ok = true then wpAny (model prog w) A (eval kx env) (fun kv s₄ => wpAny (model prog w) A (eval vx env) (fun vv s₅ => wpAny (model prog w) A (dictSet D kv vv) (fun _ s₆ => ∃ m, m < n ∧ I m s₆) NoE s₅) NoE s₄) NoE s₃
            else ∃ m, m < n ∧ I m s₃) NoE s₂) NoE s₁) NoE s₁) NoE s)
    (n : Nat) (h : I n s) : codeAny (model prog w) A (.compLoop (.DictComp kx vx [⟨target, iter, ifs, 0⟩] scope pos) 0 it (.ref D) env) R s := by
  refine codeAny_loop rfl I (fun n s hI => ?_) n h
  have no : ∀ {α : Type} {t : Sem α} {Q : α → Shared → Prop} {E : Value → Shared → Prop} {s : Shared}, wpAny (model prog w) A t Q NoE s → wpAny (model prog w) A t Q E s := fun h => wpAny_mono h (fun _ _ q => q) fun _ _ z => z.elim
  show wpAny _ A ((compTurn (.DictComp kx vx [⟨target, iter, ifs, 0⟩] scope pos) 0 it (.ref D) env).onRaise (fun x => do noteFrame x env; theTreesLotGoes x)) _ _ s
  rw [compTurn_dict]
  refine wpAny_noted (wpAny_bind (wpAny_standAt (wpAny_bind (no (thn (turn n s hI) fun r s₁ h₁ => ?_)))))
  cases r with
  | none => exact wpAny_pure h₁
  | some v =>
    refine wpAny_bind (no (thn h₁ fun _ s₁ h₁ => wpAny_bind (no (thn h₁ fun _ s₂ h₂ => wpAny_bind (no (thn h₂ fun ok s₃ h₃ => ?_))))))
    cases ok with
    | false => exact wpAny_pure ⟨rfl, h₃⟩
    | true =>
      refine wpAny_bind (wpAny_bind (no (thn h₃ fun kv s₄ h₄ => wpAny_bind (wpAny_holding (no (thn h₄ fun vv s₅ h₅ => ?_))))))
      exact wpAny_bind (wpAny_standAt (wpAny_holding (no (thn h₅ fun _ s₆ h₆ => wpAny_pure ⟨rfl, h₆⟩))))
end
section
variable {X : Cx} {scope : Scope} {N' : List Str} {ix : List (Option Nat)} {C : Addr} {fp : List Addr} {s₂ : Shared} {H₂ : Hp} {pins : List (Addr × Obj)} {σ : St}
/-- the block begins; nothing is pinned -/
theorem blk_start0 (I : Inv X pins σ H₂ s₂) (co : CompOk X.N X.env.scope scope N' ix) {h₁ : Heap} {t' : Nat} (hC : @Eq Nat C s₂.heap.objs.size) (hf : ∀ b ∈ fp, FpOk X pins H₂ b) (hlt : ∀ b ∈ fp, b < s₂.heap.objs.size)
    (old : ∀ b o, s₂.heap.get? b = some o → h₁.get? b = some o) {m : Str → Option Value} (hns : h₁.Ns C m) :
    Inv (blk X scope N' C fp s₂ H₂) [] (blkSt ix σ) H₂ { s₂ with heap := h₁, toks := t' } where
  ok := blk_ok I co (by omega) hf hlt
  os := rfl
  bare := I.bare
  base := Un.kept old
  loc := by
    refine ⟨m, hns, fun i x v e1 e2 e3 => ?_⟩
    unfold blkSt at e2
    rw [List.getElem?_map] at e2
    cases q : ix[i]? with
    | none => rw [q] at e2; cases e2
    | some o =>
      rw [q] at e2
      cases o with
      | none => cases e2
      | some k =>
        have e2' : (σ[k]?).join = some v := Option.some.inj e2
        have e2'' : σ[k]? = some (some v) := by
          cases z : σ[k]? with
          | none => rw [z] at e2'; cases e2'
          | some o => rw [z] at e2'; exact congrArg some e2'
        obtain ⟨o1, o2, o3⟩ := co.out i x k e1 q
        have hk : X.env.kindOf x = some .cell ∨ X.env.kindOf x = some .free := co.frees _ o2 rfl
        obtain ⟨m0, _, hl⟩ := I.loc
        obtain ⟨u, r, l⟩ := hl k x v o1 e2'' (.inr hk)
        refine ⟨u, r, ?_⟩
        rcases l with ⟨l, _⟩ | ⟨_, c, ec, hcell⟩
        · rcases hk with z | z
          · rw [z] at l; cases l
          · rw [z] at l; cases l
        · refine .inr ⟨?_, c, clOf_has o2 ec, ?_⟩
          · rcases e3 with z | z | z
            · obtain ⟨k', hm, q⟩ := lookup_relabel z
              rcases q with q | ⟨_, q⟩
              · have := o3 _ hm rfl
                rw [show k' = NameKind.local from q] at this
                cases this
              · cases q
            · exact .inl z
            · exact .inr z
          · obtain ⟨o, ho, hd⟩ := hcell
            exact ⟨o, old _ _ ho, hd⟩
  cell := fun x c e => by
    obtain ⟨v, o, ho, hd⟩ := I.cell x c (clOf_env e)
    exact ⟨v, o, old _ _ ho, hd⟩
  free := I.hok.fresh (by show @LE.le Nat _ s₂.heap.objs.size C; omega)
  freeC := fun x c e => I.freeC x c (clOf_env e)
  pin := fun p hp => by
    have hp' : p ∈ ([] : List (Addr × Obj)) := by simpa [blk] using hp
    cases hp'
  hok := I.hok.kept old
  len := by unfold blkSt; rw [List.length_map]; exact co.len
end
/-- what a dict comprehension's turns are to reach -/
def DcW (J : It) (g : TG) (ti : TT) (tk tv : TE) (D : Addr) (QF : Hp → Prop) (W : Nat → Nat → St → Hp → Prop) : Prop := ∀ i m σ H, W i m σ H → (J.stop i H ∧ QF H) ∨
  (J.go i H ∧ ∃ N : St → Hp → Prop, (∀ σ' H', N σ' H' → ∃ m', m' < m ∧ W (i + 1) m' σ' H') ∧
    ∀ x H', J.yld i H x H' → g x σ H' fun σ2 H2 => ti σ2 H2 fun b H3 => if b = true then tk σ2 H3 fun y H4 => tv σ2 H4 fun z H5 => ∃ H6, DPut H5 D y z H6 ∧ N σ2 H6 else N σ2 H3)
/-- the reading of {kx: vx for tg in iter if ..}: new, what the empty dict is to be -/
def tDc (new : HO) (ix : List (Option Nat)) (wi : TI) (g : TG) (ti : TT) (tk tv : TE) : TE := fun σ H Q => wi σ H fun J H1 => ∀ D, H1 D = none → ∃ W : Nat → Nat → St → Hp → Prop, (∃ m, W 0 m (blkSt ix σ) (upd H1 D new)) ∧ DcW J g ti tk tv D (fun H => Q (.ref D) H) W
section
variable {X : Cx}
theorem dblk_run {scope : Scope} {N' : List Str} {ix : List (Option Nat)} {pins : List (Addr × Obj)} {σ : St} {tg iter kx vx : Expr} {ifs : List Expr} {pos : Pos} {g : TG} {ti : TT} {tk tv : TE} {E : Value → Shared → Prop} {D : Addr}
    (co : CompOk X.N X.env.scope scope N' ix) (hc : X.calm = true) (hu : X.A.units < cLine)
    (hg : ∀ C fp s₂ H₂, PG (blk X scope N' C fp s₂ H₂) tg g) (hi : ∀ C fp s₂ H₂, PIf (blk X scope N' C fp s₂ H₂) ifs ti) (hk : ∀ C fp s₂ H₂, PE (blk X scope N' C fp s₂ H₂) kx tk) (hv : ∀ C fp s₂ H₂, PE (blk X scope N' C fp s₂ H₂) vx tv)
    {H₂ : Hp} {s₂ : Shared} {J : It} {fp : List Addr} {it : Addr} {tn : Nat → Heap → Prop} {QF : Hp → Prop} {W : Nat → Nat → St → Hp → Prop}
    (I : Inv X pins σ H₂ s₂) (T : Turn X.prog X.w X.K tg J fp it tn) (st : tn 0 s₂.heap) (hf : ∀ b ∈ fp, FpOk X pins H₂ b) (w0 : ∃ m, W 0 m (blkSt ix σ) H₂) (hW : DcW J g ti tk tv D QF W)
    {RR : Addr → Result → Shared → Prop} (hRR : ∀ C H' s', Inv X pins σ H' s' → QF H' → Gone X pins H' s' C → RR C (.ok .next) s') :
    wpAny (model X.prog X.w) X.A (newFunctionEnv scope X.env.globals (clOf scope X.env) [] X.env.qual none .none (some X.env)) (fun cenv s₄ =>
      codeAny (model X.prog X.w) X.A (.compStart (.DictComp kx vx [⟨tg, iter, ifs, 0⟩] scope pos) 0 (.ref it) (.ref D) { cenv with scope := relabel scope X.env }) (RR cenv.locals) s₄) E s₂ := by
  have hlt : ∀ b ∈ fp, @LT.lt Nat _ b s₂.heap.objs.size := fun b hb => by
    obtain ⟨o, e, _⟩ := T.obj _ _ st b hb
    exact Heap.lt_size e
  refine wpAny_newFunctionEnv co.nocell (by intro y hy; simp at hy) (fun h₁ hns₁ hsb₁ => ?_) co.kind
  have below : ∀ b : Nat, b < s₂.heap.objs.size → ¬ @Eq Nat b s₂.heap.objs.size := fun b hb => by omega
  have old : ∀ b o, s₂.heap.get? b = some o → h₁.get? b = some o := fun b o e => hsb₁.extBut b o (below b (Heap.lt_size e)) (Heap.get?_push_of_some _ e)
  have st₁ : tn 0 h₁ := T.keep _ _ _ st fun b _ o e => old b o e
  generalize hCe : s₂.heap.objs.size = C at hns₁ hsb₁ below ⊢
  have loop : ∀ s₃ : Shared, s₃ = { s₂ with heap := h₁, toks := s₂.toks + ([] : List (Str × Value)).length } →
      codeAny (model X.prog X.w) X.A (.compLoop (.DictComp kx vx [⟨tg, iter, ifs, 0⟩] scope pos) 0 (.ref it) (.ref D) (compEnvC scope (clOf scope X.env) C X.env)) (RR C) s₃ := by
    rintro s₃ rfl
    obtain ⟨m0, w0⟩ := w0
    have I3 : Inv (blk X scope N' C fp s₂ H₂) [] (blkSt ix σ) H₂ { s₂ with heap := h₁, toks := s₂.toks + ([] : List (Str × Value)).length } := blk_start0 I co hCe.symm hf hlt old hns₁
    refine dcLoop_own (fun k s' => ∃ i σ' H', Inv (blk X scope N' C fp s₂ H₂) [] σ' H' s' ∧ tn i s'.heap ∧ (∀ b ∈ fp, H' b = none) ∧ W i k σ' H') ?_ m0 ⟨0, _, _, I3, st₁, fun b hb => (hf b hb).1, w0⟩
    rintro k s' ⟨i, σ', H', I', st', fr', w'⟩
    have fpok : ∀ {H' : Hp}, (∀ b ∈ fp, H' b = none) → ∀ b ∈ fp, FpOk (blk X scope N' C fp s₂ H₂) [] H' b := fun {H'} hn b hb => by
      refine ⟨hn b hb, below b (hCe ▸ hlt b hb), fun z => ?_, .inl hb, fun x c e => (hf b hb).2.2.2.2.1 x c (clOf_env e), fun p hp => ?_⟩
      · rcases List.mem_cons.mp (I.stkSub b z) with e | e
        · exact (hf b hb).2.1 e
        · exact (hf b hb).2.2.1 e
      · have hp' : p ∈ ([] : List (Addr × Obj)) := by simpa [blk] using hp
        cases hp'
    rcases hW i k σ' H' w' with ⟨stop, q⟩ | ⟨go, N, hN, step⟩
    · refine thn (T.done (blk X scope N' C fp s₂ H₂) rfl rfl rfl hc i _ s' σ' H' NoE I' (fpok fr') st' stop) fun r s4 ⟨hr, I4⟩ => ?_
      subst hr
      have cf : H' C = none := I4.free
      refine hRR C H' s4 (blk_leave0 I hf I4) q ⟨?_, cf, ?_, ?_, fun x c e => ?_, fun p hp => ?_⟩
      · obtain ⟨m, hn, _⟩ := I4.loc
        exact ⟨m, hn⟩
      · have z : @LT.lt Nat _ X.env.locals s₂.heap.objs.size := I.lt
        show ¬ @Eq Nat C X.env.locals
        omega
      · have z : @LE.le Nat _ X.s₀.heap.objs.size s₂.heap.objs.size := I.sz
        show @LE.le Nat _ X.s₀.heap.objs.size C
        omega
      · obtain ⟨v, z⟩ := I.cell x c e
        have z2 : @LT.lt Nat _ c s₂.heap.objs.size := z.lt
        show ¬ @Eq Nat c C
        omega
      · have z2 : @LT.lt Nat _ p.1 s₂.heap.objs.size := Heap.lt_size (I.pin p hp).1
        show ¬ @Eq Nat p.1 C
        omega
    · refine thn (T.item (blk X scope N' C fp s₂ H₂) rfl rfl rfl hc i _ s' σ' H' NoE I' (fpok fr') st' go) fun r s4 ⟨u, hr, h4⟩ => ?_
      subst hr
      refine thn h4 fun _ s5 ⟨x, H5, I5, r5, y5, st5, fr5⟩ => ?_
      have I5' := I5.pinned (fpok fr5) (T.obj _ _ st5)
      refine thn (hg C fp s₂ H₂ _ s5 σ' H5 x u _ I5' r5 (step x H5 y5)) fun _ s6 ⟨σ6, H6, I6, q6⟩ => ?_
      refine thn (hi C fp s₂ H₂ _ s6 σ6 H6 _ I6 q6) fun ok s7 ⟨H7, I7, q7⟩ => ?_
      have back : ∀ {σ8 : St} {H8 : Hp} {s8 : Shared}, Inv (blk X scope N' C fp s₂ H₂) ([] ++ pinsAt fp s5.heap) σ8 H8 s8 → N σ8 H8 → ∃ m', m' < k ∧ ∃ i σ' H', Inv (blk X scope N' C fp s₂ H₂) [] σ' H' s8 ∧ tn i s8.heap ∧ (∀ b ∈ fp, H' b = none) ∧ W i m' σ' H' := fun {σ8 H8 s8} I8 n8 => by
        obtain ⟨m', hm, w8⟩ := hN _ _ n8
        have fpin : ∀ b ∈ fp, ∀ o, s5.heap.get? b = some o → s8.heap.get? b = some o ∧ H8 b = none := fun b hb o e => by
          have z := I8.pin (b, o) (List.mem_append_right _ (List.mem_append_right _ (mem_pinsAt hb e)))
          exact ⟨z.1, z.2.1⟩
        refine ⟨m', hm, i + 1, σ8, H8, I8.unpinned, T.keep _ _ _ st5 fun b hb o e => (fpin b hb o e).1, fun b hb => ?_, w8⟩
        obtain ⟨o, e, _⟩ := T.obj _ _ st5 b hb
        exact (fpin b hb o e).2
      cases ok with
      | false =>
        have q7' := q7
        rw [if_neg Bool.false_ne_true] at q7'
        exact back I7 q7'
      | true =>
        have q7' := q7
        rw [if_pos rfl] at q7'
        show wpAny _ _ _ _ _ _
        refine thn (hk C fp s₂ H₂ _ s7 σ6 H7 _ I7 q7') fun kv s8 ⟨y, H8, I8, r8, q8⟩ => ?_
        refine thn (hv C fp s₂ H₂ _ s8 σ6 H8 _ I8 q8) fun vv s9 ⟨z, H9, I9, r9, H10, dp, q9⟩ => ?_
        exact d_dictSet (X := blk X scope N' C fp s₂ H₂) (A := X.A) hu I9 dp r8 r9 fun s10 I10 => back I10 q9
  exact codeAny_compStart_dict (loop _ rfl) (T.self _ 0 _ _ _ st₁ (loop _ rfl))

variable {scope : Scope} {N' : List Str} {ix : List (Option Nat)} {tg iter kx vx : Expr} {ifs : List Expr} {pos : Pos} {wi : TI} {g : TG} {ti : TT} {tk tv : TE}
theorem pe_dcomp (new : HO) (hnew : new = .dK [] ∨ new = .dT []) (hu : X.A.units + 1 < cLine) (co : CompOk X.N X.env.scope scope N' ix) (hc : X.calm = true) (hit : PI X tg iter wi) (hg : ∀ C fp s₂ H₂, PG (blk X scope N' C fp s₂ H₂) tg g) (hi : ∀ C fp s₂ H₂, PIf (blk X scope N' C fp s₂ H₂) ifs ti)
    (hk : ∀ C fp s₂ H₂, PE (blk X scope N' C fp s₂ H₂) kx tk) (hv : ∀ C fp s₂ H₂, PE (blk X scope N' C fp s₂ H₂) vx tv) (hs : ∀ x, foldedSetIterable iter X.env x = pure x := by intro _; rfl) :
    PE X (.DictComp kx vx [⟨tg, iter, ifs, 0⟩] scope pos) (tDc new ix wi g ti tk tv) := by
  intro pins s σ H Q I h
  show wpAny _ _ (comprehension (.DictComp kx vx [⟨tg, iter, ifs, 0⟩] scope pos) scope X.env _ newDict false (eval iter X.env)) _ _ s
  refine wpAny_comprehension_free (use := none) rfl hs (comp_clos co I) co.kind co.names (thn (hit pins s σ H _ I h) fun xv s₁ h₁ => thn h₁ fun itv s₂ h₂ => ?_)
  obtain ⟨it, fp, tn, J, H₂, e, I₂, T, st, hf, hq⟩ := h₂
  subst e
  refine wpAny_newObj_type ?_
  have hn : H₂ s₂.heap.objs.size = none := I₂.hok.fresh (Nat.le_refl _)
  have hob : ObjOk X.prog X.w (upd H₂ s₂.heap.objs.size new) (s₂.heap.push { cls := .type "dict", dict := none, data := .dict #[] }) s₂.heap.objs.size new := by
    rcases hnew with z | z
    · rw [z]; exact dk_empty s₂.heap I₂.big
    · rw [z]; exact dt_empty s₂.heap I₂.big
  have I₃ : Inv X pins σ (upd H₂ s₂.heap.objs.size new) { s₂ with heap := s₂.heap.push { cls := .type "dict", dict := none, data := .dict #[] } } := I₂.laid (a := s₂.heap.objs.size) (o := new) (t' := s₂.toks) (fun _ _ q => Heap.get?_push_of_some _ q) (Nat.le_refl _) hob
  obtain ⟨W, w0, hW⟩ := hq s₂.heap.objs.size hn
  have hf' : ∀ b ∈ fp, FpOk X pins (upd H₂ s₂.heap.objs.size new) b := fun b hb => by
    obtain ⟨f0, f⟩ := hf b hb
    obtain ⟨o, e, _⟩ := T.obj _ _ st b hb
    exact ⟨by rw [upd_ne (Nat.ne_of_lt (Heap.lt_size e))]; exact f0, f⟩
  refine dblk_run co hc (Nat.lt_of_succ_lt hu) hg hi hk hv I₃ T (T.keep _ _ _ st fun b _ o e => Heap.get?_push_of_some _ e) hf' w0 hW
    (RR := fun C => compPost (model X.prog X.w) X.A X.xe none (EP X pins σ Q) (.ref s₂.heap.objs.size) C) fun C H' s' I' q G => ?_
  obtain ⟨m, hn⟩ := G.ns
  exact ⟨m, hn, fun h' hs' => ⟨.ref s₂.heap.objs.size, _, G.go I' hs', rfl, q⟩⟩
end
/-! ### the forms one uses -/
theorem dc_list {K : PySem.W.Frag} {a D : Addr} {xs : List V} {g : TG} {ti : TT} {tk tv : TE} {σ0 : St} {H0 : Hp} {QF : Hp → Prop} (Pv : Nat → St → Hp → Prop) (h0 : Pv 0 σ0 H0) (hl : ∀ i σ H, i ≤ xs.length → Pv i σ H → SqL K H a xs)
    (hs : ∀ i x σ H, xs[i]? = some x → Pv i σ H → g x σ H fun σ2 H2 => ti σ2 H2 fun b H3 => if b = true then tk σ2 H3 fun y H4 => tv σ2 H4 fun z H5 => ∃ H6, DPut H5 D y z H6 ∧ Pv (i + 1) σ2 H6 else Pv (i + 1) σ2 H3)
    (hd : ∀ σ H, Pv xs.length σ H → QF H) : ∃ W : Nat → Nat → St → Hp → Prop, (∃ m, W 0 m σ0 H0) ∧ DcW (Itl K a) g ti tk tv D QF W := by
  refine ⟨fun i m σ H => m = xs.length - i ∧ i ≤ xs.length ∧ Pv i σ H, ⟨xs.length, by simp, Nat.zero_le _, h0⟩, ?_⟩
  rintro i m σ H ⟨rfl, hi, p⟩
  have q := hl i σ H hi p
  by_cases hlt : i < xs.length
  · refine .inr ⟨⟨xs, xs[i], q, by simp [hlt]⟩, Pv (i + 1), fun σ' H' p' => ⟨xs.length - (i + 1), by omega, rfl, hlt, p'⟩, fun x H' y => ?_⟩
    obtain ⟨e, y⟩ := y
    subst e
    exact hs i x σ _ (y xs q) p
  · have e : i = xs.length := by omega
    subst e
    exact .inl ⟨⟨xs, q, Nat.le_refl _⟩, hd σ H p⟩
end L2
/-! OWN RULES: enumerate(xs) walked into a tuple of names -/
namespace L2
open PySem PySem.Spec PyProof.Rows
theorem boot_enum : bootBuiltins "enumerate" = some (.type "enumerate") := by decide +kernel
section
variable {X : Cx} {pins : List (Addr × Obj)} {σ : St} {H : Hp} {s : Shared} {h' : Heap}
/-- records of ours have turned, and something new is laid -/
theorem Inv.turnedNew {t' : Nat} {ch : List Addr} {p : Addr} {o' : HO} (I : Inv X pins σ H s) (hch : ∀ b ∈ ch, FpOk X pins H b) (k : ∀ b o, b ∉ ch → s.heap.get? b = some o → h'.get? b = some o) (hp : s.heap.objs.size ≤ p) (new : ObjOk X.prog X.w (upd H p o') h' p o') :
    Inv X pins σ (upd H p o') { s with heap := h', toks := t' } := by
  have neT : ∀ {b : Addr} {u : HO}, H b = some u → b ≠ p := fun {b u} e => Nat.ne_of_lt (Nat.lt_of_lt_of_le (I.hok.lt e) hp)
  have neC : ∀ {b : Addr} {u : HO}, H b = some u → b ∉ ch := fun {b u} e z => by rw [(hch b z).1] at e; cases e
  refine I.step (g' := s.gens) (d' := s.drawn) (ch := ch) (fun b hb => ?_) (fun b o _ _ hc e _ => k b o hc e) (fun b o _ _ hc e _ => ⟨o.slots, k b o hc e⟩) (fun b o _ e n => ?_) (fun b o hc e => ⟨o, k b o hc e⟩)
    (fun b xs e => by rw [upd_ne (neT e)]; exact e) (fun b o u e => by rw [upd_ne (neT e)]; exact e) (fun b ps e => ⟨#[], by rw [upd_ne (neT e), e]; simp⟩) (fun m hm => ?_) (fun b u e => ?_) I.bare
  · obtain ⟨_, f1, _, f3, f4, f5⟩ := hch b hb
    exact ⟨f3, f1, f4, f5⟩
  · rw [upd_ne (Nat.ne_of_lt (Nat.lt_of_lt_of_le (Heap.lt_size e) hp))]
    exact n
  · obtain ⟨o, es, ep, ho, r⟩ := hm
    exact ⟨o, es, ep, k _ o (fun z => (hch _ z).2.1 rfl) ho, r⟩
  · by_cases hb : b = p
    · subst hb
      rw [upd_same] at e
      cases e
      exact new
    · rw [upd_ne hb] at e
      refine (I.hok b u e).stay (fun c v hc q => k c v ?_ q) (fun c q => by rw [upd_ne (neT q)]; exact q) fun c xs q => by rw [upd_ne (neT q)]; exact q
      rcases hc with z | z
      · rw [z]; exact neC e
      · exact neC z
end
/-- the pairs of place and item, each a new tuple -/
def Ite (K : PySem.W.Frag) (a : Addr) : It where
  go := fun i H => ∃ xs x, SqL K H a xs ∧ xs[i]? = some x
  yld := fun i H x H' => ∃ p v, H p = none ∧ x = .ref p ∧ (∀ xs, SqL K H a xs → xs[i]? = some v) ∧ H' = upd H p (.tup [.int (i : Int), v])
  stop := fun i H => ∃ xs, SqL K H a xs ∧ xs.length ≤ i
theorem turn_enum {P : Program} {w : World} {K : PySem.W.Frag} {elts : List Expr} {k : Nat} {tpos : Pos} (a e it : Addr) (hne : e ≠ it) :
    Turn P w K (.Tuple elts k tpos) (Ite K a) [e, it] e (fun i h => (∃ old, IsEnum h e it i old) ∧ h.IsListIter it a i) where
  mem := by simp
  obj := fun i h st b hb => by
    obtain ⟨⟨old, he⟩, oi, ei, ci, di⟩ := st
    have hb' : b = e ∨ b = it := by simpa using hb
    rcases hb' with z | z
    · subst z
      exact ⟨_, he, fun v z => by
        have z' : Data.fields _ = Data.cell v := z
        cases z'⟩
    · subst z
      exact ⟨oi, ei, fun v z => by rw [di] at z; cases z⟩
  keep := fun i h h' st k => ⟨st.1.imp fun old he => k e (by simp) _ he, st.2.at fun o q => k it (by simp) o q⟩
  item := by
    intro X hP hw hK hc i pins s σ H E I hf st hg
    subst hP hw hK
    obtain ⟨xs, x, hq, hx⟩ := hg
    obtain ⟨its, rv, p, hz⟩ := I.list hq
    obtain ⟨u, hu, ru⟩ := rv.get hx
    obtain ⟨⟨old, he⟩, hit⟩ := st
    refine wpAny_pyNext_enum_item he hit p.isList (x := u) (by simpa using hu) hne fun h' he' hit' ht' hz' hk' => ⟨_, rfl, wpAny_letOwnedTupleGo_enum he' fun h'' he'' hs'' => ?_⟩
    have ne : s.heap.objs.size ≠ e := Ne.symm (Nat.ne_of_lt (Heap.lt_size he))
    have ht'' := (hs''.2 s.heap.objs.size ne).trans ht'
    have fin : ∀ c ∈ [e, it], c ≠ s.heap.objs.size := fun c hc => by
      have hc' : c = e ∨ c = it := by simpa using hc
      rcases hc' with z | z
      · rw [z]; exact Ne.symm ne
      · obtain ⟨oi, ei, _⟩ := hit
        rw [z]; exact Nat.ne_of_lt (Heap.lt_size ei)
    refine ⟨.ref s.heap.objs.size, upd H s.heap.objs.size (.tup [.int (i : Int), x]), ?_, rfl, ⟨_, x, I.fresh, rfl, fun ys hy => by rw [I.list_inj hy hq]; exact hx, rfl⟩, ⟨⟨u, by simpa using he''⟩, ?_⟩, fun b hb => ?_⟩
    · refine I.turnedNew (ch := [e, it]) (t' := s.toks + 1) hf (fun b o hb q => ?_) (Nat.le_refl _) ⟨(by show 2 ≤ sizeLine; decide), [.int i s.toks, u], .cons ⟨_, rfl⟩ (.cons ru .nil), _, ht'', rfl, _, rfl⟩
      have hb1 : b ≠ e := fun z => hb (by simp [z])
      have hb2 : b ≠ it := fun z => hb (by simp [z])
      exact (hs''.2 b hb1).trans (hk' b o hb1 hb2 q)
    · exact hit'.at fun o q => (hs''.2 it (Ne.symm hne)).trans q
    · rw [upd_ne (fin b hb)]
      exact (hf b hb).1
  done := by
    intro X hP hw hK hc i pins s σ H E I hf st hg
    subst hP hw hK
    obtain ⟨xs, hq, hx⟩ := hg
    obtain ⟨its, rv, p, hz⟩ := I.list hq
    have hl := rv.length
    obtain ⟨⟨old, he⟩, hit⟩ := st
    obtain ⟨f0, f1, f2, f3, f4, f5⟩ := hf it (by simp)
    exact wpAny_pyNext_enum_end (I.ok.hd hc) he hit p.isList (by simp; omega) fun h' eb => ⟨rfl, I.turned (t' := s.toks) (fun b o hb q => eb b o hb q) f0 f1 f3 f4 f5⟩
  self := fun _ _ _ _ _ st h => by
    obtain ⟨⟨old, he⟩, _⟩ := st
    exact wpAny_pyIter_enum he h
def iEnum (K : PySem.W.Frag) (ta : TA) : TI := fun σ H R => ta σ H fun vs H1 => ∃ a, vs = [.ref a] ∧ (∃ xs, SqL K H1 a xs) ∧ R (Ite K a) H1
theorem pi_enum {X : Cx} {elts : List Expr} {k : Nat} {tpos : Pos} {a : Expr} {ta : TA} {p pos : Pos} (hg : Gl X "enumerate") (hm : X.mg "enumerate" = none) (ha : PA X [a] ta) (hs : starEach [a] X.env = [(false, eval a X.env)] := by rfl) :
    PI X (.Tuple elts k tpos) (.Call (.Name "enumerate" p) [a] [] pos) (iEnum X.K ta) := by
  intro pins s σ H R I h
  refine Call_ (ld_blt I hg hm boot_enum (PyProof.Rows.callWith_type1 (thn (ha pos pins s σ H _ I h) fun us s1 ⟨vs, H1, I1, r1, q1⟩ => ?_) hs rfl))
  obtain ⟨l, e, ⟨xs, hq⟩, q⟩ := q1
  subst e
  obtain ⟨u, rfl, rx⟩ := vals1 r1
  cases rx
  obtain ⟨its, rv, pl, hz⟩ := I1.list hq
  refine call_enumerate_list pl.isList fun h' he hit hsz hk => wpAny_pyIter_enum he ?_
  have I2 : Inv X pins σ H1 { s1 with heap := h' } := I1.kept (t' := s1.toks) hk
  refine ⟨s1.heap.objs.size + 1, [s1.heap.objs.size + 1, s1.heap.objs.size], _, _, H1, rfl, I2, turn_enum l _ _ (fun z => absurd z (Nat.succ_ne_self _)), ⟨⟨_, he⟩, hit⟩, fun b hb => ?_, q⟩
  have hb' : b = s1.heap.objs.size + 1 ∨ b = s1.heap.objs.size := by simpa using hb
  have hle : s1.heap.objs.size ≤ b := by
    rcases hb' with z | z
    · rw [z]; exact Nat.le_succ _
    · rw [z]; exact Nat.le_refl _
  exact I1.fpOk hle (I1.hok.fresh hle)
/-- a list comprehension over enumerate(xs) -/
theorem lc_enum {K : PySem.W.Frag} {a : Addr} {xs : List V} {g : TG} {ti : TT} {te : TE} {σ0 : St} {H0 : Hp} {Q : VK} (Pv : Nat → List V → St → Hp → Prop) (h0 : Pv 0 [] σ0 H0)
    (hl : ∀ i ys σ H, i ≤ xs.length → Pv i ys σ H → SqL K H a xs ∧ ys.length ≤ sizeLine)
    (hs : ∀ i x ys σ H p, xs[i]? = some x → Pv i ys σ H → H p = none → g (.ref p) σ (upd H p (.tup [.int (i : Int), x])) fun σ2 H2 => ti σ2 H2 fun b H3 => if b = true then te σ2 H3 fun y H4 => Pv (i + 1) (ys ++ [y]) σ2 H4 else Pv (i + 1) ys σ2 H3)
    (hd : ∀ ys σ H, Pv xs.length ys σ H → ∀ p, H p = none → Q (.ref p) (upd H p (.lst ys))) :
    ∃ W : Nat → Nat → List V → St → Hp → Prop, (∃ m, W 0 m [] σ0 H0) ∧ ∀ i m ys σ H, W i m ys σ H →
      ys.length ≤ sizeLine ∧ (((Ite K a).stop i H ∧ lcEnd Q ys H) ∨
        ((Ite K a).go i H ∧ ∃ N : List V → St → Hp → Prop, (∀ ys' σ' H', N ys' σ' H' → ∃ m', m' < m ∧ W (i + 1) m' ys' σ' H') ∧
          ∀ x H', (Ite K a).yld i H x H' → g x σ H' fun σ2 H2 => ti σ2 H2 fun b H3 => if b = true then te σ2 H3 fun y H4 => N (ys ++ [y]) σ2 H4 else N ys σ2 H3)) := by
  refine ⟨fun i m ys σ H => m = xs.length - i ∧ i ≤ xs.length ∧ Pv i ys σ H, ⟨xs.length, by simp, Nat.zero_le _, h0⟩, ?_⟩
  rintro i m ys σ H ⟨rfl, hi, p⟩
  obtain ⟨q, hz⟩ := hl i ys σ H hi p
  refine ⟨hz, ?_⟩
  by_cases hlt : i < xs.length
  · refine .inr ⟨⟨xs, xs[i], q, by simp [hlt]⟩, Pv (i + 1), fun ys' σ' H' p' => ⟨xs.length - (i + 1), by omega, rfl, hlt, p'⟩, fun x H' y => ?_⟩
    obtain ⟨c, v, hc, rfl, y, rfl⟩ := y
    exact hs i v ys σ H c (y xs q) p hc
  · have e : i = xs.length := by omega
    subst e
    exact .inl ⟨⟨xs, q, Nat.le_refl _⟩, hd ys σ H p⟩
end L2
/-! OWN RULES: min of a list, by comparisons of what stands there; sorted of ints; len and a walk of dicts of tuples -/
namespace L2
open PySem PySem.Spec PyProof.Rows
abbrev lst0 (its : Array Value) (c : Nat) : Obj := { cls := .type "list", dict := none, data := .seq its c, slots := #[] }
/-- min's loop: j items are taken, the best of them stands at S -/
structure MinSt (s : Shared) (l it S : Addr) (vs : List Value) (bt : Nat → Nat → Bool) (j : Nat) (s' : Shared) : Prop where
  same : s' = { s with heap := s'.heap, toks := s'.toks }
  it : s'.heap.IsListIter it l j
  old : ∀ b o, s.heap.get? b = some o → s'.heap.get? b = some o
  le : j ≤ vs.length
  best : (j = 0 ∧ ∃ c, s'.heap.get? S = some (lst0 #[] c)) ∨ ∃ k v c, j = k + 1 ∧ vs[argBest bt k]? = some v ∧ s'.heap.get? S = some (lst0 #[v, v] c)
theorem argBest_le (bt : Nat → Nat → Bool) : ∀ k, argBest bt k ≤ k
  | 0 => Nat.le_refl _
  | k + 1 => by
    have := argBest_le bt k
    unfold argBest
    split <;> omega
section
variable {prog : Program} {w : World} {A : Around} {s : Shared} {l it S : Addr} {vs : List Value} {bt : Nat → Nat → Bool} {R : Result → Shared → Prop}
theorem den_builtin {id : String} {args : Args} {b : Builtin} (hb : entryFor table id = some b) : (model prog w).den (.builtin id args) = b args := by
  show (match entryFor table id with | some b => b args | none => unsupported ((withoutEnding? id "#data").getD id)) = _
  rw [hb]
theorem upd2 {M : Model} {A : Around} {E : Value → Shared → Prop} {its : Array Value} {c : Nat} {f : Array Value → Array Value} {Q : Unit → Shared → Prop} (hS : s.heap.get? S = some (lst0 its c)) (h0 : its.size ≤ 2) (h1 : (f its).size ≤ 2) (h : Q () { s with heap := s.heap.update S (Obj.mapSeq f) }) : wpAny M A (updateSeq S f) Q E s :=
  wpAny_updateSeq (o := lst0 its c) (n := c) hS rfl h (Nat.le_trans h0 (by decide)) (Nat.le_trans h1 (by decide))
set_option maxHeartbeats 2000000 in
theorem min_turns (hh : A.handled = none) (hl : s.heap.IsList l vs.toArray) (hit : ∀ o, s.heap.get? it ≠ some o) (hS : ∀ o, s.heap.get? S ≠ some o) (hIS : it ≠ S) (hne : 0 < vs.length)
    (hcmp : ∀ i j vi vj (s' : Shared) (Q : Value → Shared → Prop) (E : Value → Shared → Prop), j < i → vs[i]? = some vi → vs[j]? = some vj → (∀ b o, s.heap.get? b = some o → s'.heap.get? b = some o) → Q (.bool (bt i j)) s' → wpAny (model prog w) A.in1 (richCompare .Lt vi vj) Q E s')
    (hR : ∀ v h' tk, vs[argBest bt (vs.length - 1)]? = some v → (∀ b o, s.heap.get? b = some o → h'.get? b = some o) → R (.ok (.ret v)) { s with heap := h', toks := tk }) {s1 : Shared} (h1 : MinSt s l it S vs bt 0 s1) :
    codeAny (model prog w) A (.builtin "min.loop" ⟨[.ref it, .none, .ref S], []⟩) R s1 := by
  have hname : (toString "min" ++ toString ".loop" : String) = "min.loop" := by decide
  refine codeAny_loop (plainId_quiet F.plain_min_loop _) (fun n s' => ∃ j, n = vs.length - j ∧ MinSt s l it S vs bt j s') (fun n s' ⟨j, en, M⟩ => ?_) vs.length ⟨0, by simp, h1⟩
  rw [Around.under_plainId F.plain_min_loop, den_builtin F.entry_min_loop]
  have hl' : s'.heap.IsList l vs.toArray := by
    obtain ⟨o, ho, r⟩ := hl
    exact ⟨o, M.old l o ho, r⟩
  have oldU : ∀ {h2 : Heap} {f : Obj → Obj}, (∀ b o, s.heap.get? b = some o → h2.get? b = some o) → ∀ b o, s.heap.get? b = some o → (h2.update S f).get? b = some o := fun k b o e => (Heap.get?_update_other _ _ (fun z => hS o (by rw [z]; exact e))).trans (k b o e)
  by_cases hj : j < vs.length
  · obtain ⟨x, hx⟩ : ∃ x, vs[j]? = some x := ⟨vs[j], by simp [hj]⟩
    have hxa : vs.toArray[j]? = some x := by simpa using hx
    have step : ∀ {h2 : Heap}, Heap.SameBut it s'.heap h2 → (∀ b o, s.heap.get? b = some o → h2.get? b = some o) := fun sb b o e => (sb.2 b (fun z => hit o (by rw [← z]; exact e))).trans (M.old b o e)
    rcases M.best with ⟨ej, c, hc⟩ | ⟨k, v, c, ej, hv, hc⟩
    · subst ej
      show wpAny _ A.in1 (seqItems? (.ref S) >>= _) _ _ s'
      refine wpAny_bind (wpAny_seqItems hc rfl ?_)
      show wpAny _ A.in1 (tryCatch (pyNext (.ref it)) _ >>= _) _ _ s'
      refine wpAny_bind (wpAny_tryCatch (wpAny_pyNext_list_item M.it hl' hxa fun h2 i2 sb => ?_))
      have hc2 : h2.get? S = some (lst0 #[] c) := (sb.2 S (Ne.symm hIS)).trans hc
      show wpAny _ A.in1 (updateSeq S (fun _ => #[x, x]) >>= _) _ _ _
      refine wpAny_bind (upd2 hc2 (Nat.zero_le _) (Nat.le_refl _) ?_)
      rw [hname]
      refine wpAny_pure ⟨rfl, vs.length - 1, by omega, 1, rfl, ?_, i2.at fun o q => (Heap.get?_update_other _ _ (Ne.symm hIS)).trans q, oldU (step sb), hj, .inr ⟨0, x, _, rfl, hx, Heap.get?_update_self _ hc2 rfl⟩⟩
      rw [M.same]
    · show wpAny _ A.in1 (seqItems? (.ref S) >>= _) _ _ s'
      refine wpAny_bind (wpAny_seqItems hc rfl ?_)
      show wpAny _ A.in1 (tryCatch (pyNext (.ref it)) _ >>= _) _ _ s'
      refine wpAny_bind (wpAny_tryCatch (wpAny_pyNext_list_item M.it hl' hxa fun h2 i2 sb => ?_))
      have hc2 : h2.get? S = some (lst0 #[v, v] c) := (sb.2 S (Ne.symm hIS)).trans hc
      have hb := argBest_le bt k
      show wpAny _ A.in1 (tryCatch (holding [x, x] (richCompare .Lt x v >>= _)) _ >>= _) _ _ _
      refine wpAny_bind (wpAny_tryCatch (wpAny_holding (wpAny_bind (hcmp j (argBest bt k) x v _ _ _ (by omega) hx hv (step sb) (wpAny_bind (wpAny_holding (wpAny_truthy_bool (wpAny_bind (wpAny_letGo (wpAny_pure ?_))))))))))
      have next : ∀ {b : Bool}, bt j (argBest bt k) = b → argBest bt j = if b = true then j else argBest bt k := fun {b} e => by
        subst ej
        show (if bt (k + 1) (argBest bt k) = true then k + 1 else argBest bt k) = _
        rw [e]
      cases hbt : bt j (argBest bt k) with
      | true =>
        simp only [if_true]
        show wpAny _ A.in1 (updateSeq S (fun _ => #[x, x]) >>= _) _ _ _
        refine wpAny_bind (upd2 hc2 (Nat.le_refl _) (Nat.le_refl _) (wpAny_bind (wpAny_letGo ?_)))
        rw [hname]
        refine wpAny_pure ⟨rfl, vs.length - (j + 1), by omega, j + 1, rfl, ?_, i2.at fun o q => (Heap.get?_update_other _ _ (Ne.symm hIS)).trans q, oldU (step sb), hj, .inr ⟨j, x, _, rfl, by rw [next hbt]; exact hx, Heap.get?_update_self _ hc2 rfl⟩⟩
        rw [M.same]
      | false =>
        simp only [Bool.false_eq_true, if_false]
        refine wpAny_bind (wpAny_letGo ?_)
        rw [hname]
        refine wpAny_pure ⟨rfl, vs.length - (j + 1), by omega, j + 1, rfl, ?_, i2, step sb, hj, .inr ⟨j, v, c, rfl, by rw [next hbt]; exact hv, hc2⟩⟩
        rw [M.same]
  · have ej : j = vs.length := by have := M.le; omega
    have hxa : vs.toArray[j]? = none := by simp; omega
    rcases M.best with ⟨z, _⟩ | ⟨k, v, c, ek, hv, hc⟩
    · omega
    · show wpAny _ A.in1 (seqItems? (.ref S) >>= _) _ _ s'
      refine wpAny_bind (wpAny_seqItems hc rfl ?_)
      show wpAny _ A.in1 (tryCatch (pyNext (.ref it)) _ >>= _) _ _ s'
      refine wpAny_bind (wpAny_tryCatch (wpAny_pyNext_list_end hh M.it hl' hxa fun h2 eb => ?_))
      have hc2 : h2.get? S = some (lst0 #[v, v] c) := eb S _ (Ne.symm hIS) hc
      show wpAny _ A.in1 (updateSeq S (fun _ => #[]) >>= _) _ _ _
      refine wpAny_bind (upd2 hc2 (Nat.le_refl _) (Nat.zero_le _) (wpAny_bind (wpAny_letGo (wpAny_pure ?_))))
      have ekl : k = vs.length - 1 := by omega
      have := hR v (h2.update S (Obj.mapSeq fun _ => #[])) s'.toks (ekl ▸ hv) (oldU fun b o e => eb b o (fun z => hit o (by rw [← z]; exact e)) (M.old b o e))
      rw [M.same]
      exact this
end
section
variable {prog : Program} {w : World} {A : Around} {s : Shared} {l : Addr} {vs : List Value} {bt : Nat → Nat → Bool} {E : Value → Shared → Prop}
/-- min(xs), a list that is not empty: bt i j tells whether the item at i is less than the one at j, j ahead of i -/
theorem min_of {Q : Value → Shared → Prop} (hh : A.handled = none) (hl : s.heap.IsList l vs.toArray) (hne : 0 < vs.length)
    (hcmp : ∀ i j vi vj (s' : Shared) (Q : Value → Shared → Prop) (E : Value → Shared → Prop), j < i → vs[i]? = some vi → vs[j]? = some vj → (∀ b o, s.heap.get? b = some o → s'.heap.get? b = some o) → Q (.bool (bt i j)) s' → wpAny (model prog w) A.in1 (richCompare .Lt vi vj) Q E s')
    (h : ∀ v h' tk, vs[argBest bt (vs.length - 1)]? = some v → (∀ b o, s.heap.get? b = some o → h'.get? b = some o) → Q v { s with heap := h', toks := tk }) :
    wpAny (model prog w) A (call (.builtin "min") [.ref l]) Q E s := by
  have hname : (toString "min" ++ toString ".loop" : String) = "min.loop" := by decide
  refine call_function_tree F.kind_min F.plain_min F.entry_min (F.args_min1 _) ?_
  show wpAny _ A.in1 (Builtin.Builtins.bindParams "min" ["key", "default"] 0 ⟨[], []⟩ >>= _) _ _ s
  refine wpAny_bind (wpAny_of_eq (a := [none, none]) rfl (wpAny_bind (wpAny_pure (wpAny_bind (wpAny_pyIter_list hl (wpAny_bind (wpAny_newObj_type ?_)))))))
  rw [hname]
  have ns : ∀ {b : Addr}, s.heap.objs.size ≤ b → ∀ o, s.heap.get? b ≠ some o := fun {b} z o e => absurd (Heap.lt_size e) (Nat.not_lt.mpr z)
  generalize hS : (s.heap.push { cls := .type "list_iterator", data := .fields #[.ref l, .int 0 0] }).objs.size = S
  have hS' : S = s.heap.objs.size + 1 := by rw [← hS, Heap.size_push]
  refine wpAny_pure ⟨plainId_quiet F.plain_min_loop _, min_turns (s := s) (S := S) hh hl (ns (Nat.le_refl _)) (ns (by rw [hS']; exact Nat.le_succ _)) (by rw [hS']; exact Nat.ne_of_lt (Nat.lt_succ_self _)) hne hcmp (fun v h' tk hv k => h v h' tk hv k)
    ⟨rfl, ⟨_, Heap.get?_push_of_some _ (Heap.get?_push_size _ rfl), rfl, rfl⟩, fun b o e => Heap.get?_push_of_some _ (Heap.get?_push_of_some _ e), Nat.zero_le _, .inl ⟨rfl, 0, ?_⟩⟩⟩
  rw [← hS]
  exact Heap.get?_push_size _ rfl
end
theorem vals_ofInts : ∀ {vs : List Value} {ns : List Int}, IntsAre vs ns → Vals (ns.map V.int) vs
  | _, _, .nil => .nil
  | _, _, .cons n t r => .cons ⟨t, rfl⟩ (vals_ofInts r)
section
variable {X : Cx}
theorem meets_lenAny (d : Addr) (hd : (d == sysModules) = false) : Meets (Builtin.«dict.__len__» ⟨[.ref d], []⟩) (fun _ R s => ∃ o es ep, s.heap.get? d = some o ∧ o.data = .dict es ep ∧ R (.ok (.ret (.int es.size s.toks))) { s with toks := s.toks + 1 }) :=
  .of_wp fun prog w A R s ⟨o, es, ep, ho, hdat, h⟩ => by
    show wpAny _ _ (dictSize d >>= _) _ _ s
    unfold dictSize
    exact wpAny_bind (wpAny_bind (wpAny_dictEntries ho hdat (wpAny_pure (wpAny_bind (wpAny_pendingCount_other hd (wpAny_ret_mkInt (by rw [Nat.add_zero]; exact h)))))))
/-- len of a dict of tuples -/
theorem call_lenT : CallR X (.builtin "len") (fun xs H Q => ∃ a kvs, xs = [V.ref a] ∧ H a = some (.dT kvs) ∧ Q (.int kvs.length) H) := by
  intro pins s σ H xs us Q I r h
  obtain ⟨a, kvs, rfl, ha, q⟩ := h
  obtain ⟨u, rfl, ru⟩ := vals1 r
  cases ru
  obtain ⟨z, hd, ys, rel, o, es, ep, ho, hx, hdat, hes, hn⟩ := I.hok a _ ha
  have hsz : es.size = kvs.length := by
    have e1 : es.toList.length = ys.length := by rw [hes, List.length_map]
    have e2 := Paired.length rel
    have e3 : es.toList.length = es.size := by simp
    omega
  have hz : (kvs.length : Int) < 2 ^ 63 := by have := line63; omega
  refine call_len_meets (n := (es.size : Int)) ⟨o, ho, hx.1⟩ PySem.F.slot_dict_len PySem.F.entry_dict_len (PySem.F.args_dict_len_1 _) (meets_lenAny a hd) (by omega) (by rw [hsz]; omega) (fun Q' q' => ⟨o, es, ep, ho, hdat, q'⟩) ?_
  rw [hsz]
  exact ⟨.int kvs.length, H, I.tok _, ⟨_, rfl⟩, q⟩
end
end L2
/-! OWN RULES: within a comprehension's block, with the text's fragment said outright -/
namespace L2
open PySem PySem.Spec PyProof.Rows
section
variable {X : Cx} {K : PySem.W.Frag}
theorem pg_tupK {es : List Expr} {k : Nat} {pos : Pos} {t : TGs} (hK : X.K = K) (hc : X.calm = true) (n : Nat) (h : PGs X es t) (hn : (assignEach es X.env).length = n) (hst : (assignEach es X.env).findIdx? (·.1) = none) : PG X (.Tuple es k pos) (gTup K n t) := by
  subst hK
  exact pg_tup hc h hn hst
theorem pe_fldK {e : Expr} {f : Str} {pos : Pos} {ta : TE} (hK : X.K = K) (he : PE X e ta) (hb : attributeBase e f X.env (eval e X.env) = eval e X.env) : PE X (.Attribute e f pos) (tFld K ta f) := by
  subst hK
  exact pe_fld he hb
theorem ix_listK (hK : X.K = K) : IxR X (rIxL K) := by
  subst hK
  exact ix_list
theorem ix_tupK (hK : X.K = K) : IxR X (rIxT K) := by
  subst hK
  exact ix_tup
end
end L2
/-! OWN RULES: d.setdefault(k, x) of a dict whose keys are tuples; xs.insert(i, x) -/
namespace PySem
section
variable {prog : Program} {w : World} {K : Type} [DecidableEq K] {knd : HeapKind prog w K} {A : Around} {E : Value → Shared → Prop} {s : Shared}
end
end PySem
namespace L2
open PySem PySem.Spec PyProof.Rows
section
variable {X : Cx} {o e f : Expr} {apos cpos : Pos} {td ty tx : TE}
/-- xs.insert(i, y), i a place of xs or the one behind it -/
theorem mt_insert : MtM X "list.insert" (fun x vs H Q => ∃ l xs i y, x = .ref l ∧ vs = [.int i, y] ∧ H l = some (.lst xs) ∧ xs.length < sizeLine ∧ 0 ≤ i ∧ i ≤ xs.length ∧ Q .non (upd H l (.lst (xs.take i.toNat ++ y :: xs.drop i.toNat)))) := by
  intro pins s σ H x vs v us Q I rx rv h
  obtain ⟨l, xs, i, y, rfl, rfl, hH, hz, i0, i1, q⟩ := h
  cases rx
  obtain ⟨_, u, rfl, ⟨t, rfl⟩, ru⟩ := rv.two
  obtain ⟨z, its, n, r, hl, e⟩ := I.lstM hH
  have len : xs.length = its.length := r.length
  have l63 := line63
  have fit : ¬ (!Builtin.List.listFitsIndex i) = true := by
    have : Builtin.List.listFitsIndex i = true := by
      unfold Builtin.List.listFitsIndex
      simp only [Bool.and_eq_true, decide_eq_true_eq]
      omega
    rw [this]
    decide
  refine call_meets F.slot_list_insert ⟨_, e, rfl⟩ F.entry_list_insert (F.args_list_insert_3 _ _ _) (PySem.AutoListH.list_insert_list_int_val_1 l its.toArray n i t u fit (by rw [List.size_toArray]; omega)) ⟨e, ?_⟩
  refine ⟨.non, _, I.lset (its' := its.take i.toNat ++ u :: its.drop i.toNat) hH e ?_ ((r.take i.toNat).append (.cons ru (r.drop i.toNat))) ?_, rfl, q⟩
  · apply Array.toList_inj.mp
    have m : min i.toNat its.length = i.toNat := by omega
    simp [show ¬ i < 0 by omega, m]
    exact List.take_of_length_le (by rw [List.length_drop]; exact Nat.le_refl _)
  · rw [List.length_append, List.length_cons, List.length_take, List.length_drop]
    omega
end
end L2
/-! OWN RULES: the keys of a dict of tuples walked -/
namespace PySem
section
variable {prog : Program} {w : World} {A : Around} {E : Value → Shared → Prop} {s : Shared}
/-- the next key, whatever the keys are -/
theorem next_key {it d : Addr} {i ep : Nat} {es : Array DictEntry} {od : Obj} {Q : Option Value → Shared → Prop} (hit : s.heap.IsKeyIter it d i es.size ep) (hod : s.heap.get? d = some od) (hdd : od.data = .dict es ep) (hlt : i < es.size)
    (hQ : ∀ h', h'.IsKeyIter it d (i + 1) es.size ep → Heap.SameBut it s.heap h' → Q (some es[i].key) { s with heap := h' }) : wpAny (model prog w) A (pyNext (.ref it)) Q E s := by
  obtain ⟨o, ho, hc, hd⟩ := id hit
  have hT := hit.typeIs
  unfold pyNext
  refine wpAny_bind (wpAny_attempt ?_)
  refine wpAny_callSpecial?_slot hT F.slot_dict_keyiterator_next ?_
  refine wpAny_call_entry F.slot_dict_keyiterator_next hT F.entry_dict_keyiterator_next ?_ (F.args_dict_keyiterator_next_1 _)
  unfold Builtin.«dict_keyiterator.__next__»
  wp_walk using wpAny_typeNameOfWhole_keyiter hT, wpAny_fieldsOf ho hd, wpAny_dictEntries hod hdd, wpAny_dictEpoch hod hdd, wpAny_isOneOf_keyiter hT
  rw [if_neg (show ¬ (i : Int) < 0 by omega), Int.toNat_natCast, Array.getElem?_eq_getElem hlt]
  have hown : Builtin.Dict_items.ownsTuple "dict_keyiterator" = false := by decide
  have hit' : (s.heap.update it (Obj.mapFields (·.setIfInBounds 1 (rawInt ((i : Int) + 1))))).IsKeyIter it d (i + 1) es.size ep :=
    ⟨_, Heap.get?_update_self _ ho (Obj.isFreed_of_fields (Obj.data_mapFields hd _)), (Obj.cls_mapFields ..).trans hc, by rw [Obj.data_mapFields hd]; simp [rawInt]⟩
  refine wpAny_bind ?_
  wp_walk using wpAny_typeNameOfWhole_keyiter hT
  rw [hd]
  show wpAny _ _ (update it (Obj.mapFields (·.setIfInBounds 1 (rawInt ((i : Int) + 1))))) _ _ s
  refine wpAny_update ho (wpAny_bind (wpAny_holding ?_))
  wp_walk using wpAny_isOneOf_keyiter (s := { s with heap := s.heap.update it (Obj.mapFields (·.setIfInBounds 1 (rawInt ((i : Int) + 1)))) }) hit'.typeIs
  exact ⟨_, rfl, wpAny_pure (hQ _ hit' (Heap.SameBut.update ..))⟩
/-- .. and none behind the last -/
theorem next_key_end {it d : Addr} {i ep : Nat} {es : Array DictEntry} {od : Obj} {Q : Option Value → Shared → Prop} (hh : A.handled = none) (hit : s.heap.IsKeyIter it d i es.size ep) (hod : s.heap.get? d = some od) (hdd : od.data = .dict es ep) (hge : es.size ≤ i)
    (hQ : ∀ h', Heap.ExtBut it s.heap h' → Q none { s with heap := h' }) : wpAny (model prog w) A (pyNext (.ref it)) Q E s := by
  obtain ⟨o, ho, hc, hd⟩ := id hit
  have hT := hit.typeIs
  unfold pyNext
  refine wpAny_bind (wpAny_attempt ?_)
  refine wpAny_callSpecial?_slot hT F.slot_dict_keyiterator_next ?_
  refine wpAny_call_entry F.slot_dict_keyiterator_next hT F.entry_dict_keyiterator_next ?_ (F.args_dict_keyiterator_next_1 _)
  unfold Builtin.«dict_keyiterator.__next__»
  wp_walk using wpAny_typeNameOfWhole_keyiter hT, wpAny_fieldsOf ho hd, wpAny_dictEntries hod hdd, wpAny_dictEpoch hod hdd, wpAny_isOneOf_keyiter hT
  rw [if_neg (show ¬ (i : Int) < 0 by omega), Int.toNat_natCast, Array.getElem?_eq_none hge]
  wp_walk using wpAny_typeNameOfWhole_keyiter hT
  rw [hd]
  show wpAny _ _ (update it (Obj.mapFields (·.setIfInBounds 0 .none))) _ _ s
  refine wpAny_update ho ?_
  unfold newExc raiseNew newTuple firstArgMember
  wp_walk using wpAny_newObj_type
  all_goals first
    | (show wpAny _ _ (isSubtype (.type "StopIteration") (.type "StopIteration")) _ _ _
       rw [isSubtype_stop]
       exact wpAny_pure (wpAny_pure (hQ _ (((Heap.SameBut.update ..).extBut.push _).push _))))
    | (unfold autoParam; size_fits)
    | size_fits
/-- the walk over a dict begun -/
theorem iter_key {d : Addr} {es : Array DictEntry} {ep : Nat} {od : Obj} {Q : Value → Shared → Prop} (hd : (d == sysModules) = false) (hod : s.heap.get? d = some od) (hx : od.ExactDict) (hdd : od.data = .dict es ep)
    (hQ : Q (.ref s.heap.objs.size) { s with heap := s.heap.push { cls := .type "dict_keyiterator", data := .fields #[.ref d, .int 0 0, .int es.size 0, .int ep 0] } }) : wpAny (model prog w) A (pyIter (.ref d)) Q E s := by
  have hT : s.TypeIs (.ref d) "dict" := ⟨od, hod, hx.1⟩
  have run : wpAny (model prog w) A.in1 (Builtin.«dict.__iter__» ⟨[.ref d], []⟩) (fun fin s' => fin = .done (.ret (.ref s.heap.objs.size)) ∧ s' = { s with heap := s.heap.push { cls := .type "dict_keyiterator", data := .fields #[.ref d, .int 0 0, .int es.size 0, .int ep 0] } }) E s := by
    unfold Builtin.«dict.__iter__» Builtin.Dict.dictSlotNone Builtin.Dict.showsAll
    wp_walk using wpAny_notOrdered_dict hT, wpAny_dictEntries hod hdd, wpAny_dictEpoch hod hdd
    exact ⟨rfl, rfl⟩
  refine wpAny_pyIter_slot hT F.slot_dict_iter (wpAny_call_entry F.slot_dict_iter hT F.entry_dict_iter (wpAny_mono run (fun f s' z => ?_) fun _ _ z => z) (F.args_dict_iter_1 _))
  obtain ⟨rfl, rfl⟩ := z
  exact ⟨_, rfl, "dict_keyiterator", _, ⟨_, Heap.get?_push_size _ rfl, rfl⟩, F.slot_dict_keyiterator_next.lookup, hQ⟩
end
end PySem
namespace L2
open PySem PySem.Spec PyProof.Rows
/-- the keys of a dict of tuples that is held fast -/
def ItdT (a : Addr) (o : Obj) (kvs : List (List Key × V)) : It where
  go := fun i H => i < kvs.length ∧ H a = some (.frz o (.dT kvs))
  yld := fun i H x H' => H' = H ∧ ∃ kv b, kvs[i]? = some kv ∧ x = .ref b ∧ H b = some (.tup (kv.1.map kV))
  stop := fun i H => kvs.length ≤ i ∧ H a = some (.frz o (.dT kvs))
theorem paired_get {α β : Type} {F : α → β → Prop} : ∀ {xs : List α} {ys : List β} {i : Nat} {x : α}, Paired F xs ys → xs[i]? = some x → ∃ y, ys[i]? = some y ∧ F x y
  | _, _, _, _, .nil, e => by simp at e
  | _, _, 0, _, .cons h _, e => by
    cases Option.some.inj e
    exact ⟨_, rfl, h⟩
  | _, _, i + 1, _, .cons _ r, e => paired_get (i := i) r e
theorem turn_dT {P : Program} {w : World} {K : PySem.W.Frag} {tg : Expr} (a it : Addr) (o : Obj) (kvs : List (List Key × V)) (es : Array DictEntry) (ep : Nat) (hd : o.data = .dict es ep) : Turn P w K tg (ItdT a o kvs) [it] it (fun i h => h.IsKeyIter it a i kvs.length ep) where
  mem := by simp
  obj := fun i h st b hb => by
    have e : b = it := by simpa using hb
    subst e
    obtain ⟨o, e, c, d⟩ := st
    exact ⟨o, e, fun v z => by rw [d] at z; cases z⟩
  keep := fun i h h' st k => st.at fun o e => k it (by simp) o e
  item := by
    intro X hP hw hK hc i pins s σ H E I hf st hg
    subst hP hw hK
    obtain ⟨hi, hq⟩ := hg
    obtain ⟨ho, hz, hs, xs, r, o', es', ep', ho', hx', hd', he, nd⟩ := I.hok a _ hq
    cases Option.some.inj (ho'.symm.trans ho)
    rw [hd] at hd'
    cases hd'
    have hsz : es.size = kvs.length := by
      have e1 := congrArg List.length he
      rw [List.length_map, ← Paired.length r] at e1
      simpa using e1
    obtain ⟨kv, ekv⟩ : ∃ kv, kvs[i]? = some kv := ⟨kvs[i], by simp [hi]⟩
    obtain ⟨x, ex, e1, e2, e3⟩ := paired_get r ekv
    have hlt : i < es.size := by omega
    have hkey : es[i].key = .ref x.2.1 := by
      have h1 : es.toList[i]? = some es[i] := by simp [hlt]
      rw [he, List.getElem?_map, ex] at h1
      rw [← Option.some.inj h1]
      rfl
    obtain ⟨f0, f1, f2, f3, f4, f5⟩ := hf it (by simp)
    rw [← hsz] at st
    refine next_key st ho hd hlt fun h' st' sb => ?_
    have I1 : Inv X pins σ H { s with heap := h' } := I.turned (t' := s.toks) (fun b o hb e => (sb.2 b hb).trans e) f0 f1 f3 f4 f5
    rw [hsz] at st'
    rw [hkey]
    obtain ⟨oi, ei, ci, di⟩ := id st'
    exact ⟨_, rfl, go_of (s := { s with heap := h' }) ei ci di (by decide) ⟨.ref x.2.1, H, I1, rfl, ⟨rfl, kv, x.2.1, ekv, rfl, by rw [e1]; rw [e1] at e2; exact e2⟩, st', fun b hb => (hf b hb).1⟩⟩
  done := by
    intro X hP hw hK hc i pins s σ H E I hf st hg
    subst hP hw hK
    obtain ⟨hi, hq⟩ := hg
    obtain ⟨ho, hz, hs, xs, r, o', es', ep', ho', hx', hd', he, nd⟩ := I.hok a _ hq
    cases Option.some.inj (ho'.symm.trans ho)
    rw [hd] at hd'
    cases hd'
    have hsz : es.size = kvs.length := by
      have e1 := congrArg List.length he
      rw [List.length_map, ← Paired.length r] at e1
      simpa using e1
    obtain ⟨f0, f1, f2, f3, f4, f5⟩ := hf it (by simp)
    rw [← hsz] at st
    exact next_key_end (I.ok.hd hc) st ho hd (by omega) fun h' eb => ⟨rfl, I.turned (t' := s.toks) (fun b o hb e => eb b o hb e) f0 f1 f3 f4 f5⟩
  self := fun _ _ _ _ _ st h => wpAny_pyIter_keyiter st h
def iDt (tl : TE) : TI := fun σ H R => tl σ H fun x H1 => ∃ a kvs, x = .ref a ∧ H1 a = some (.dT kvs) ∧ ∀ o, R (ItdT a o kvs) (upd H1 a (.frz o (.dT kvs)))
theorem pi_dT {X : Cx} {tg l : Expr} {tl : TE} (hl : PE X l tl) : PI X tg l (iDt tl) := by
  intro pins s σ H R I h
  refine thn (hl pins s σ H _ I h) fun v s1 ⟨x, H1, I1, r1, q1⟩ => ?_
  obtain ⟨a, kvs, e, hq, q⟩ := q1
  subst e
  cases r1
  obtain ⟨hz, hs, xs, r, o, es, ep, ho, hx, hd, he, nd⟩ := I1.hok a _ hq
  have hsz : es.size = kvs.length := by
    have e1 := congrArg List.length he
    rw [List.length_map, ← Paired.length r] at e1
    simpa using e1
  refine iter_key hs ho hx hd ?_
  have I2 := I1.freeze (show Mut (some (HO.dT kvs)) from True.intro) hq ho
  have hn : upd H1 a (.frz o (.dT kvs)) s1.heap.objs.size = none := I2.hok.fresh (Nat.le_refl _)
  refine ⟨s1.heap.objs.size, [s1.heap.objs.size], _, _, _, rfl, I2.kept (t' := s1.toks) fun b o e => Heap.get?_push_of_some _ e, turn_dT a _ o kvs es ep hd, ?_, fun b hb => ?_, q o⟩
  · rw [← hsz]
    exact ⟨_, Heap.get?_push_size _ rfl, rfl, rfl⟩
  · have e : b = s1.heap.objs.size := by simpa using hb
    subst e
    exact I2.fpOk (Nat.le_refl _) hn
end L2
/-! OWN RULES: a set of ints below 6, made of a list, and sorted -/
namespace L2
open PySem PySem.Spec PyProof.Rows
/-- all rising rows of numbers below n -/
def subsF : Nat → List (List Nat)
  | 0 => [[]]
  | n + 1 => subsF n ++ (subsF n).map (· ++ [n])
/-- the table of such a set -/
def tabF (led : Bool) (js : List Nat) : SetTable := { mask := if js.length < 5 then 7 else 31, place := js.toArray, dummies := #[], finger := 0, led := led, moves := if js.length < 5 then 0 else 1, plain := true }
/-- .. and one that is to grow at once -/
def tabG (led : Bool) (js : List Nat) (n : Nat) : SetTable := { mask := if n < 5 then 7 else 31, place := js.toArray, dummies := #[], finger := 0, led := led, moves := if n < 5 then 0 else 1, plain := true }
def posF (j : Nat) (js : List Nat) : Nat := (js.filter (· < j)).length
def insF (j : Nat) (js : List Nat) : List Nat := js.take (posF j js) ++ j :: js.drop (posF j js)
def okF (led : Bool) (js : List Nat) (j : Nat) : Bool :=
  decide ((tabF led js).freeSlot (j : Int) = some (j, false)) && decide ((tabF led js).put j = (tabG led (insF j js) js.length, posF j js)) && decide ((tabG led (insF j js) js.length).fits (js.length + 1) = true)
    && decide (insF j js ∈ subsF 6) && decide (posF j js ≤ js.length)
    && decide (if (tabG led (insF j js) js.length).tooFull = true then (tabG led (insF j js) js.length).relaid ((insF j js).map fun (k : Nat) => (k : Int)).toArray (SetTable.grown (js.length + 1)) = some (tabF led (insF j js), Array.range (js.length + 1)) ∧ coversAll (Array.range (js.length + 1)) (js.length + 1) = true ∧ (tabF led (insF j js)).fits (js.length + 1) = true
        else tabG led (insF j js) js.length = tabF led (insF j js))
set_option maxRecDepth 100000 in
theorem okF_all : ∀ led ∈ [true, false], ∀ js ∈ subsF 6, ∀ j ∈ List.range 6, j ∈ js ∨ okF led js j = true := by decide +kernel
def wkF (led : Bool) (js : List Nat) (i : Nat) : Bool :=
  decide (SetTable.below (tabF led js).place (if i = 0 then 0 else js.getD (i - 1) 0 + 1) = i)
set_option maxRecDepth 100000 in
theorem wkF_all : ∀ led ∈ [true, false], ∀ js ∈ subsF 6, (tabF led js).fits js.length = true ∧ js.length ≤ 6 ∧ js.Pairwise (· < ·) ∧ (∀ j ∈ js, j < 6) ∧ ∀ i ∈ List.range (js.length + 1), wkF led js i = true := by decide +kernel
theorem hash6 : ∀ j ∈ List.range 6, hashInt (j : Int) = (j : Int) := by decide +kernel
/-- the elements of such a set, as they lie there -/
def esF (tk : Nat → Tok) (js : List Nat) : List (Int × Value) := js.map fun (j : Nat) => ((j : Int), Value.int (j : Int) (tk j))
def ledF (w : World) : Bool := !w.params.followText "set-order"
/-- a set of ints at a -/
def SetAt (w : World) (h : Heap) (a : Addr) (js : List Nat) : Prop := ∃ o tk ep, h.get? a = some o ∧ o.ExactSet ∧ o.data = .set (esF tk js).toArray ep (tabF (ledF w) js)
theorem led_mem (b : Bool) : b ∈ [true, false] := by cases b <;> simp
theorem esF_len (tk : Nat → Tok) (js : List Nat) : (esF tk js).toArray.size = js.length := by simp [esF]
section
variable {prog : Program} {w : World} {A : Around} {E : Value → Shared → Prop} {s : Shared} {a : Addr} {js : List Nat}
theorem esF_elems (tk : Nat → Tok) (h : ∀ j ∈ js, j < 6) : ElemsOf (intKind prog w) (esF tk js).toArray.toList := by
  intro e he
  simp only [esF, List.mem_map] at he
  obtain ⟨j, hj, rfl⟩ := he
  exact ⟨⟨(j : Int), intKind_is _ _ _ _, (hash6 j (List.mem_range.mpr (h j hj))).symm⟩, rfl⟩
theorem esF_find (tk : Nat → Tok) {j : Nat} : ((esF tk js).findIdx? (fun e => (intKind prog w).is (j : Int) e.2)).isSome = decide (j ∈ js) := by
  rw [List.findIdx?_isSome, Bool.eq_iff_iff]
  simp only [esF, List.any_map, List.any_eq_true, decide_eq_true_eq, Function.comp]
  constructor
  · rintro ⟨k, hk, e⟩
    have : (k : Int) = j := by simpa [intKind, Value.isInt] using e.symm
    have : j = k := by omega
    rw [this]; exact hk
  · intro hj
    exact ⟨j, hj, intKind_is _ _ _ _⟩
theorem esF_ins (tk : Nat → Tok) {j : Nat} {t : Tok} (hj : j ∉ js) (hp : posF j js ≤ js.length) : (SetTable.insertAt (esF tk js).toArray (posF j js) ((j : Int), Value.int (j : Int) t)).toList = esF (fun k => if k = j then t else tk k) (insF j js) := by
  have same : ∀ l : List Nat, (∀ k ∈ l, k ∈ js) → esF (fun k => if k = j then t else tk k) l = esF tk l := fun l hl => List.map_congr_left fun k hk => by
    have : k ≠ j := fun z => hj (z ▸ hl k hk)
    simp [this]
  rw [SetTable.toList_insertAt]
  unfold insF
  have e1 := same _ fun k hk => List.mem_of_mem_take (i := posF j js) hk
  have e2 := same _ fun k hk => List.mem_of_mem_drop (i := posF j js) hk
  simp only [esF, List.map_append, List.map_cons, List.map_take, List.map_drop, if_true] at e1 e2 ⊢
  rw [e1, e2]
theorem mem_ins {j k : Nat} : k ∈ insF j js ↔ k ∈ js ∨ k = j := by
  unfold insF
  rw [List.mem_append, List.mem_cons]
  constructor
  · rintro (h | h | h)
    · exact .inl (List.mem_of_mem_take h)
    · exact .inr h
    · exact .inl (List.mem_of_mem_drop h)
  · rintro (h | h)
    · rw [← List.take_append_drop (posF j js) js, List.mem_append] at h
      rcases h with h | h
      · exact .inl h
      · exact .inr (.inr h)
    · exact .inr (.inl h)
theorem ins_len {j : Nat} (hp : posF j js ≤ js.length) : (insF j js).length = js.length + 1 := by
  unfold insF
  rw [List.length_append, List.length_cons, List.length_take, List.length_drop]
  omega
theorem add6 {j : Nat} {t : Tok} {Q : Bool → Shared → Prop} (hS : SetAt w s.heap a js) (hjs : js ∈ subsF 6) (hj : j < 6)
    (h : ∀ b h' js', Heap.SameBut a s.heap h' → js' ∈ subsF 6 → (∀ k, k ∈ js' ↔ k ∈ js ∨ k = j) → SetAt w h' a js' → Q b { s with heap := h' }) :
    wpAny (model prog w) A (setAddHashed a (.int (j : Int) t) (hashInt (j : Int))) Q E s := by
  obtain ⟨o, tk, ep, ho, hex, hd⟩ := id hS
  obtain ⟨hf, hl6, hup, hlt, _⟩ := wkF_all _ (led_mem (ledF w)) js hjs
  have hz := esF_len tk js
  have hf' : (tabF (ledF w) js).fits (esF tk js).toArray.size = true := by rw [hz]; exact hf
  have hel := esF_elems (prog := prog) (w := w) tk hlt
  have hsc : byScan (.int (j : Int) t) (esF tk js).toArray = true := byScan_of (knd := intKind prog w) rfl (by rw [hz]; unfold scanBound; omega) hel
  have line : ∀ n : Nat, n ≤ 7 → n ≤ sizeLine := fun n hn => by rw [sizeLine_eq]; omega
  refine wpAny_holding (wpAny_bind (wpAny_setState_of ho hd hf' ?_))
  dsimp only
  rw [if_pos hsc]
  unfold setAddByScan
  refine wpAny_bind (wpAny_bind (wpAny_rule (wpAny_bind (wpAny_setScan_of (knd := intKind prog w) (k := (j : Int)) (intKind_is _ _ _ _) ho hd hf' hel ?_))))
  have hfd := esF_find (prog := prog) (w := w) (js := js) tk (j := j)
  rw [List.toList_toArray]
  cases hr : List.findIdx? (fun e => (intKind prog w).is (j : Int) e.2) (esF tk js) with
  | some i =>
    rw [hr] at hfd
    have hm : j ∈ js := by simpa using hfd.symm
    refine wpAny_pure (wpAny_pure ?_)
    have := h false s.heap js (Heap.SameBut.refl a s.heap) hjs (fun k => ⟨.inl, fun z => z.elim id fun z => z ▸ hm⟩) hS
    exact this
  | none =>
    rw [hr] at hfd
    have hm : j ∉ js := by simpa using hfd.symm
    have hok := (okF_all _ (led_mem (ledF w)) js hjs j (List.mem_range.mpr hj)).resolve_left hm
    simp only [okF, Bool.and_eq_true, decide_eq_true_eq] at hok
    obtain ⟨⟨⟨⟨⟨k1, k2⟩, k3⟩, k4⟩, k5⟩, k6⟩ := hok
    rw [hash6 j (List.mem_range.mpr hj)]
    have hn := layNew (tabF (ledF w) js) (esF tk js).toArray (j : Int) (Value.int (j : Int) t)
    have hlay : layNew (tabF (ledF w) js) (esF tk js).toArray (j : Int) (Value.int (j : Int) t) = ((esF (fun k => if k = j then t else tk k) (insF j js)).toArray, tabG (ledF w) (insF j js) js.length, false, false) := by
      have e1 : SetTable.insertAt (esF tk js).toArray (posF j js) ((j : Int), Value.int (j : Int) t) = (esF (fun k => if k = j then t else tk k) (insF j js)).toArray := by
        rw [← esF_ins tk hm k5]
      unfold layNew
      rw [k1]
      dsimp only
      rw [k2]
      dsimp only
      rw [e1, esF_len, ins_len k5]
      unfold SetTable.orStandIn
      rw [k3]
      rfl
    rw [hlay]
    have hbv : hashByValue 8 (Value.int (j : Int) t) = pure true := hashByValue_scannable 8 rfl
    have lenI := ins_len k5
    have hz2 := esF_len (fun k => if k = j then t else tk k) (insF j js)
    refine wpAny_bind (wpAny_pure (wpAny_bind (wpAny_of_eq hbv ?_)))
    dsimp only
    refine wpAny_bind (wpAny_storeSet_of ho hd ?_ (line _ (by rw [hz2, lenI]; omega)))
    have ho1 := Heap.get?_update_self (Obj.putSet (esF (fun k => if k = j then t else tk k) (insF j js)).toArray (tabG (ledF w) (insF j js) js.length)) ho (by rw [putSet_of _ _ hd]; rfl)
    rw [putSet_of _ _ hd] at ho1
    simp only [if_true, Bool.not_false, Bool.true_and]
    by_cases hfull : (tabG (ledF w) (insF j js) js.length).tooFull = true
    · rw [if_pos hfull] at k6
      obtain ⟨q1, q2, q3⟩ := k6
      have hrl : relayAll (tabG (ledF w) (insF j js) js.length) (esF (fun k => if k = j then t else tk k) (insF j js)).toArray (SetTable.grown (js.length + 1)) = ((esF (fun k => if k = j then t else tk k) (insF j js)).toArray, tabF (ledF w) (insF j js), false) := by
        have e1 : (esF (fun k => if k = j then t else tk k) (insF j js)).toArray.map (·.1) = ((insF j js).map fun (k : Nat) => (k : Int)).toArray := by
          rw [List.map_toArray]
          simp [esF, Function.comp_def]
        have e2 : (Array.range (js.length + 1)).filterMap ((esF (fun k => if k = j then t else tk k) (insF j js)).toArray[·]?) = (esF (fun k => if k = j then t else tk k) (insF j js)).toArray := by
          refine Array.toList_inj.mp ?_
          rw [Array.toList_filterMap, Array.toList_range, ← lenI, ← hz2]
          exact filterMap_getElem?_range _
        unfold relayAll
        rw [e1, q1]
        dsimp only
        rw [e2, hz2, lenI, q2, q3]
        rfl
      rw [if_pos hfull, hz2, lenI, hrl]
      dsimp only
      refine wpAny_bind (wpAny_pure (wpAny_bind (wpAny_storeSet_of ho1 rfl ?_ (line _ (by rw [hz2, lenI]; omega)))))
      have ho2 := Heap.get?_update_self (Obj.putSet (esF (fun k => if k = j then t else tk k) (insF j js)).toArray (tabF (ledF w) (insF j js))) ho1 (by rw [putSet_of _ _ rfl]; rfl)
      rw [putSet_of _ _ rfl] at ho2
      exact wpAny_pure (wpAny_pure (h true _ (insF j js) ((Heap.SameBut.update _ a _).trans (Heap.SameBut.update _ a _)) k4 (fun k => mem_ins) ⟨_, _, _, ho2, hex, rfl⟩))
    · rw [if_neg hfull] at k6
      rw [if_neg hfull]
      rw [k6] at ho1 ⊢
      exact wpAny_pure (wpAny_pure (h true _ (insF j js) (Heap.SameBut.update _ a _) k4 (fun k => mem_ins) ⟨_, _, _, ho1, hex, rfl⟩))
theorem intsLen : ∀ {vs : List Value} {ns : List Int}, IntsAre vs ns → vs.length = ns.length
  | _, _, .nil => rfl
  | _, _, .cons _ _ r => by rw [List.length_cons, List.length_cons, intsLen r]
/-- set.update's loop over a list of ints -/
structure UpdSt (s : Shared) (l it S : Addr) (w : World) (ns : List Int) (i : Nat) (s' : Shared) : Prop where
  same : s' = { s with heap := s'.heap, toks := s'.toks }
  it : s'.heap.IsListIter it l i
  old : ∀ b o, s.heap.get? b = some o → s'.heap.get? b = some o
  le : i ≤ ns.length
  set : ∃ js, js ∈ subsF 6 ∧ (∀ k : Nat, k ∈ js ↔ (k : Int) ∈ ns.take i) ∧ SetAt w s'.heap S js
theorem SetAt.keep {h h' : Heap} (x : SetAt w h a js) (k : ∀ o, h.get? a = some o → h'.get? a = some o) : SetAt w h' a js := by
  obtain ⟨o, tk, ep, e, r⟩ := x
  exact ⟨o, tk, ep, k o e, r⟩
theorem upd_turns {l it S : Addr} {vs : List Value} {ns : List Int} {R : Result → Shared → Prop} (hh : A.handled = none) (hl : s.heap.IsList l vs.toArray) (hI : IntsAre vs ns) (h6 : ∀ z ∈ ns, 0 ≤ z ∧ z < 6)
    (hit : ∀ o, s.heap.get? it ≠ some o) (hS : ∀ o, s.heap.get? S ≠ some o) (hIS : it ≠ S)
    (hR : ∀ h' tk js, js ∈ subsF 6 → (∀ k : Nat, k ∈ js ↔ (k : Int) ∈ ns) → SetAt w h' S js → (∀ b o, s.heap.get? b = some o → h'.get? b = some o) → R (.ok (.ret .none)) { s with heap := h', toks := tk }) {s1 : Shared} (h1 : UpdSt s l it S w ns 0 s1) :
    codeAny (model prog w) A (.builtin "set.update.loop" ⟨[.ref S, .ref it], []⟩) R s1 := by
  have lenv : vs.length = ns.length := intsLen hI
  refine codeAny_loop (plainId_quiet F.plain_set_update_loop _) (fun n s' => ∃ i, n = ns.length - i ∧ UpdSt s l it S w ns i s') (fun n s' ⟨i, en, M⟩ => ?_) ns.length ⟨0, by simp, h1⟩
  rw [Around.under_plainId F.plain_set_update_loop, den_builtin F.entry_set_update_loop]
  have hl' : s'.heap.IsList l vs.toArray := by
    obtain ⟨o, ho, r⟩ := hl
    exact ⟨o, M.old l o ho, r⟩
  obtain ⟨js, hjs, hmem, hset⟩ := M.set
  show wpAny _ A.in1 (pyNext (.ref it) >>= _) _ _ s'
  by_cases hi : i < ns.length
  · obtain ⟨v, hv⟩ : ∃ v, vs[i]? = some v := ⟨vs[i]'(by omega), by simp [lenv, hi]⟩
    obtain ⟨t, ev⟩ := hI.int_at i v hv
    obtain ⟨z, hz⟩ : ∃ z, ns[i]? = some z := ⟨ns[i], by simp [hi]⟩
    have hzm : z ∈ ns := List.mem_of_getElem? hz
    obtain ⟨z0, z6⟩ := h6 z hzm
    obtain ⟨j, rfl⟩ := Int.eq_ofNat_of_zero_le z0
    rw [List.getD_eq_getElem?_getD, hz] at ev
    have ev' : v = Value.int (j : Int) t := ev
    subst ev'
    refine wpAny_bind (wpAny_pyNext_list_item M.it hl' (by simpa using hv) fun h2 i2 sb => ?_)
    have old2 : ∀ b o, s.heap.get? b = some o → h2.get? b = some o := fun b o e => (sb.2 b (fun q => hit o (by rw [← q]; exact e))).trans (M.old b o e)
    show wpAny _ A.in1 (holding [Value.int (j : Int) t] (setAdd S (.int (j : Int) t)) >>= _) _ _ _
    refine wpAny_bind (wpAny_holding (wpAny_holding (wpAny_bind ((intKind prog w).pyHash (k := (j : Int)) (intKind_is _ _ _ _) ?_))))
    refine add6 (js := js) (hset.keep fun o e => (sb.2 S (Ne.symm hIS)).trans e) hjs (by omega) fun b h3 js' sb3 hjs' hm3 hs3 => ?_
    refine wpAny_pure ⟨rfl, ns.length - (i + 1), by omega, i + 1, rfl, ?_, i2.at fun o q => (sb3.2 it hIS).trans q, fun b o e => (sb3.2 b (fun q => hS o (by rw [← q]; exact e))).trans (old2 b o e), hi, js', hjs', fun k => ?_, hs3⟩
    · rw [M.same]
    · rw [hm3 k, hmem k, List.take_succ, hz]
      rw [List.mem_append]
      simp only [Option.toList_some, List.mem_singleton, Int.ofNat_inj]
  · have ei : i = ns.length := by have := M.le; omega
    subst ei
    refine wpAny_bind (wpAny_pyNext_list_end hh M.it hl' (by simp; omega) fun h2 eb => ?_)
    refine wpAny_pure ?_
    have := hR h2 s'.toks js hjs (fun k => by rw [hmem k, List.take_length]) (hset.keep fun o e => eb S o (Ne.symm hIS) e) (fun b o e => eb b o (fun q => hit o (by rw [← q]; exact e)) (M.old b o e))
    rw [M.same]
    exact this
abbrev set0 (w : World) : Obj := { cls := .type "set", dict := none, data := .set #[] 0 (tabF (ledF w) []) }
theorem new6 {v : Value} {R : Result → Shared → Prop} (h : R (.ok (.ret (.ref s.heap.objs.size))) { s with heap := s.heap.push (set0 w) }) :
    codeAny (model prog w) A (.call (.builtin "set.__new__") ⟨[.type "set", v], []⟩) R s := by
  refine codeAny_call_builtin F.plain_set_new F.entry_set_new (wpAny_of_eq (F.newCall_set_1 v) ?_)
  unfold Builtin.«set.__new__» Builtin.Frozenset.newClass
  have i1 := sub_set_self
  obtain ⟨hp, g, d, tk, os⟩ := s
  wp_walk
  refine wpAny_askSetting (wpAny_pure ?_)
  exact wpAny_newObj_type (wpAny_pure h)
set_option maxHeartbeats 4000000 in
theorem call_set6 {l : Addr} {vs : List Value} {ns : List Int} {Q : Value → Shared → Prop} (hh : A.handled = none) (hl : s.heap.IsList l vs.toArray) (hI : IntsAre vs ns) (h6 : ∀ z ∈ ns, 0 ≤ z ∧ z < 6)
    (h : ∀ h' tk js, js ∈ subsF 6 → (∀ k : Nat, k ∈ js ↔ (k : Int) ∈ ns) → SetAt w h' s.heap.objs.size js → (∀ b o, s.heap.get? b = some o → h'.get? b = some o) → Q (.ref s.heap.objs.size) { s with heap := h', toks := tk }) :
    wpAny (model prog w) A (call (.type "set") [.ref l]) Q E s := by
  have cs := F.called_set
  obtain ⟨c, tl, m1⟩ := cs.mro
  have m2 := cs.made
  have m3 := cs.sub
  have m4 := cs.notType
  have m5 := cs.canCreate
  have m6 := F.typeCall_set_1 (.ref l)
  refine wpAny_call (codeAny_of_tree ?_)
  refine wpAny_pure ⟨Code.quiet_builtin _ (by decide +kernel), codeAny_builtin F.entry_type_call ?_⟩
  rw [Around.under_plain (weight_type_call_type "set" [.ref l] []) rfl]
  repeat (any_goals (first | assumption | wp_step))
  refine new6 ?_
  have at0 : (s.heap.push (set0 w)).get? s.heap.objs.size = some (set0 w) := Heap.get?_push_size _ rfl
  have hT : Shared.TypeIs { s with heap := s.heap.push (set0 w) } (.ref s.heap.objs.size) "set" := ⟨_, at0, rfl⟩
  have m7 := cs.init.lookup
  have m8 := cs.init.bind (.ref s.heap.objs.size)
  dsimp only
  repeat (any_goals (first | assumption | wp_step))
  refine codeAny_call_builtin cs.init.plain F.entry_set_init (check_set_init_1 hT ?_)
  obtain ⟨ol, hol, hcl, nl, hdl⟩ := id hl
  have hl1 : (s.heap.push (set0 w)).IsList l vs.toArray := hl.push _
  have hTl : Shared.TypeIs { s with heap := s.heap.push (set0 w) } (.ref l) "list" := ⟨ol, Heap.get?_push_of_some _ hol, hcl⟩
  have n1 := F.sub_list_set
  have n2 := F.sub_list_frozenset
  unfold Builtin.«set.__init__» noKeywords Builtin.Frozenset.updateFrom
  generalize hPI : pyIter = PI
  wp_walk using wpAny_typeOf hTl
  subst hPI
  have hsz : (s.heap.push (set0 w)).objs.size = s.heap.objs.size + 1 := Heap.size_push ..
  refine wpAny_pyIter_list hl1 (wpAny_bind (wpAny_runValue ?_))
  show codeAny (model prog w) A.in1.in1 (.builtin "set.update.loop" ⟨[.ref s.heap.objs.size, .ref (s.heap.push (set0 w)).objs.size], []⟩) _ _
  rw [hsz]
  have fr : ∀ {b : Addr}, s.heap.objs.size ≤ b → ∀ o, s.heap.get? b ≠ some o := fun {b} z o e => absurd (Heap.lt_size e) (Nat.not_lt.mpr z)
  have U : UpdSt s l (s.heap.objs.size + 1) s.heap.objs.size w ns 0 { s with heap := (s.heap.push (set0 w)).push { cls := .type "list_iterator", data := .fields #[.ref l, .int 0 0] } } :=
    ⟨rfl, ⟨_, hsz ▸ Heap.get?_push_size _ rfl, rfl, rfl⟩, fun b o e => Heap.get?_push_of_some _ (Heap.get?_push_of_some _ e), Nat.zero_le _, [], by decide, fun k => by simp, ⟨_, fun _ => 0, 0, Heap.get?_push_of_some _ at0, ⟨rfl, rfl, rfl⟩, rfl⟩⟩
  refine upd_turns (A := A.in1.in1) (prog := prog) (s := s) (show A.in1.in1.handled = none from hh) hl hI h6 (fr (Nat.le_succ _)) (fr (Nat.le_refl _)) (Nat.ne_of_gt (Nat.lt_succ_self _)) (fun h' tk js a1 a2 a3 a4 => ?_) U
  exact wpAny_pure (wpAny_pure (wpAny_pure (wpAny_pure (h h' tk js a1 a2 a3 a4))))
theorem slot_setit : Slot "set_iterator" "__next__" "set_iterator.__next__" :=
  .of (owner := "set_iterator") (n := "__next__") (by rw [typeLookup_type, builtinLookup_eq_fast]; kernel_rfl) (by decide +kernel) (by decide +kernel) (by decide +kernel)
    (by first | exact .inl (by decide +kernel) | exact .inr (by decide +kernel)) (by rw [isSubtype_type]; kernel_rfl)
theorem entry_setit : entryFor table "set_iterator.__next__" = some Builtin.«set_iterator.__next__» := entryFor_of_tree (by kernel_rfl)
theorem owner_setit : Manifest.owners.lookup (String.ofList ['r', 'o', 't', 'a', 'r', 'e', 't', 'i', '_', 't', 'e', 's'].reverse) = some Manifest.sig_set_iterator := by kernel_rfl
theorem args_setit (a : Value) : argsOk "set_iterator.__next__" ⟨[a], []⟩ := by
  unfold argsOk; rw [signature?_of (id := "set_iterator.__next__") (n := ['_', '_', 't', 'x', 'e', 'n', '_', '_']) (o := ['r', 'o', 't', 'a', 'r', 'e', 't', 'i', '_', 't', 'e', 's']) (by kernel_rfl) owner_setit]; kernel_rfl
theorem entry_setiter : entryFor table "set.__iter__" = some Builtin.«frozenset.__iter__» := entryFor_alias (id' := "frozenset.__iter__") (by kernel_rfl) rfl (by decide +kernel) (by kernel_rfl)
/-- the row in which a set's elements are told -/
def rowF (w : World) (a : Addr) (ep : Nat) (es : Array (Int × Value)) : Array (Int × Value) := if w.params.followText "set-order" = true then pickOrder (w.params.setOrder a ep) es else es
/-- the iterator of a set, i items told -/
def SetIt (w : World) (h : Heap) (it a : Addr) (js : List Nat) (ep i : Nat) : Prop := ∃ o, ∃ slot : Nat, h.get? it = some o ∧ o.cls = .type "set_iterator" ∧ o.data = .fields #[.int (slot : Int) 0, .int i 0, .ref a, .int js.length 0, .int ep 0] ∧
  (w.params.followText "set-order" = false → slot = if i = 0 then 0 else js.getD (i - 1) 0 + 1)
/-- a set whose object is known -/
def SetK (w : World) (h : Heap) (a : Addr) (js : List Nat) (tk : Nat → Tok) (ep : Nat) : Prop := ∃ o, h.get? a = some o ∧ o.ExactSet ∧ o.data = .set (esF tk js).toArray ep (tabF (ledF w) js)
theorem iter6 {tk : Nat → Tok} {ep : Nat} {Q : Value → Shared → Prop} (hS : SetK w s.heap a js tk ep) (hjs : js ∈ subsF 6)
    (hQ : Q (.ref s.heap.objs.size) { s with heap := s.heap.push { cls := .type "set_iterator", data := .fields #[.int 0 0, .int 0 0, .ref a, .int js.length 0, .int ep 0] } }) : wpAny (model prog w) A (pyIter (.ref a)) Q E s := by
  obtain ⟨o, ho, hex, hd⟩ := hS
  obtain ⟨hf, hl6, hup, hlt, _⟩ := wkF_all _ (led_mem (ledF w)) js hjs
  have hz := esF_len tk js
  have hf' : (tabF (ledF w) js).fits (esF tk js).toArray.size = true := by rw [hz]; exact hf
  have hT : s.TypeIs (.ref a) "set" := ⟨o, ho, hex.1⟩
  have run : wpAny (model prog w) A.in1 (Builtin.«frozenset.__iter__» ⟨[.ref a], []⟩) (fun fin s' => fin = .done (.ret (.ref s.heap.objs.size)) ∧ s' = { s with heap := s.heap.push { cls := .type "set_iterator", data := .fields #[.int 0 0, .int 0 0, .ref a, .int js.length 0, .int ep 0] } }) E s := by
    unfold Builtin.«frozenset.__iter__» Builtin.Frozenset.sizeOf setDrawn setsByText
    wp_walk using wpAny_setEntries_of ho hd hf', wpAny_setState_of ho hd hf', wpAny_setEpoch_of ho hd hf'
    refine wpAny_askSetting (wpAny_pure (wpAny_pure ?_))
    refine wpAny_ite_split (fun z => ?_) fun _ => ?_
    · rw [Bool.and_eq_true] at z
      exact absurd (show false = true from z.2) (by decide)
    · wp_walk using wpAny_setEpoch_of ho hd hf'
      rw [hz]
      exact ⟨rfl, rfl⟩
  refine wpAny_pyIter_slot hT F.slot_set_iter (wpAny_call_entry F.slot_set_iter hT entry_setiter (wpAny_mono run (fun f s' z => ?_) fun _ _ z => z) (F.args_set_iter_1 _))
  obtain ⟨rfl, rfl⟩ := z
  exact ⟨_, rfl, "set_iterator", _, ⟨_, Heap.get?_push_size _ rfl, rfl⟩, slot_setit.lookup, hQ⟩
theorem setNext6 {tk : Nat → Tok} {slot ep i : Nat} {Q : Option (Value × Nat) → Shared → Prop} (hS : SetK w s.heap a js tk ep) (hjs : js ∈ subsF 6) (hi : i ≤ js.length) (hsl : w.params.followText "set-order" = false → slot = if i = 0 then 0 else js.getD (i - 1) 0 + 1)
    (h : Q ((rowF w a ep (esF tk js).toArray)[i]?.map fun e => (e.2, if w.params.followText "set-order" = true then slot else js.getD i 0 + 1)) s) : wpAny (model prog w) A (setNext a slot i ep) Q E s := by
  obtain ⟨o, ho, hex, hd⟩ := hS
  obtain ⟨hf, hl6, hup, hlt, hbl⟩ := wkF_all _ (led_mem (ledF w)) js hjs
  have hz := esF_len tk js
  have hf' : (tabF (ledF w) js).fits (esF tk js).toArray.size = true := by rw [hz]; exact hf
  unfold setNext setsByText
  refine wpAny_bind (wpAny_setState_of ho hd hf' (wpAny_bind (wpAny_bind (wpAny_askSetting (wpAny_pure ?_)))))
  dsimp only
  refine wpAny_ite_split (fun hb => ?_) fun hb => ?_
  · have hb' : w.params.followText "set-order" = true := hb
    refine wpAny_ite_split (fun z => absurd z (by simp)) fun _ => ?_
    refine wpAny_bind ?_
    unfold setWalk setsByText
    refine wpAny_bind (wpAny_setState_of ho hd hf' (wpAny_bind (wpAny_bind (wpAny_askSetting (wpAny_pure ?_)))))
    dsimp only
    refine wpAny_ite_split (fun _ => ?_) fun z => absurd hb z
    refine wpAny_bind (wpAny_askSetting (wpAny_pure (wpAny_pure ?_)))
    rw [if_pos hb'] at h
    unfold rowF at h
    rw [if_pos hb'] at h
    exact h
  · have hb' : w.params.followText "set-order" = false := by
      cases z : w.params.followText "set-order" with
      | false => rfl
      | true => exact absurd z hb
    have hled : ledF w = true := by unfold ledF; rw [hb']; rfl
    refine wpAny_ite_split (fun z => absurd (show false = true from z) (by decide)) fun _ => ?_
    rw [hled] at hbl ⊢
    refine wpAny_bind ?_
    show wpAny _ _ (pure ()) _ _ _
    refine wpAny_pure (wpAny_pure ?_)
    have e1 := hbl i (List.mem_range.mpr (by omega))
    simp only [wkF, decide_eq_true_eq] at e1
    rw [hsl hb', e1]
    have e2 : rowF w a ep (esF tk js).toArray = (esF tk js).toArray := by unfold rowF; rw [hb']; rfl
    rw [e2] at h
    simp only [hb', Bool.false_eq_true, if_false] at h
    by_cases hlt' : i < js.length
    · have e3 : (tabF true js).place[i]? = some js[i] := by simp [tabF, hlt']
      have e4 : (esF tk js).toArray[i]? = some ((js[i] : Int), Value.int (js[i] : Int) (tk js[i])) := by simp [esF, hlt']
      rw [e4] at h ⊢
      rw [e3]
      have e5 : js.getD i 0 = js[i] := by simp [List.getD_eq_getElem?_getD, hlt']
      rw [e5] at h
      exact h
    · have e4 : (esF tk js).toArray[i]? = none := by simp [esF]; omega
      rw [e4] at h ⊢
      exact h
end
theorem pick_go {α : Type} (next : Nat → Nat) : ∀ (fuel k : Nat) (left : List α) (out : Array α), left.length = fuel → (pickOrder.go next fuel k left out).toList.Perm (out.toList ++ left)
  | 0, k, left, out, h => by
    have : left = [] := List.length_eq_zero_iff.mp h
    subst this
    simp [pickOrder.go]
  | fuel + 1, k, left, out, h => by
    have hp : 0 < left.length := by omega
    have hlt : next k % left.length < left.length := Nat.mod_lt _ hp
    have he : left[next k % left.length]? = some left[next k % left.length] := by simp [hlt]
    unfold pickOrder.go
    rw [he]
    dsimp only
    refine (pick_go next fuel (k + 1) _ _ (by rw [List.length_eraseIdx_of_lt hlt]; omega)).trans ?_
    rw [Array.toList_push, List.append_assoc]
    refine List.Perm.append_left _ ?_
    rw [List.eraseIdx_eq_take_drop_succ]
    have e := List.take_append_drop (next k % left.length) left
    rw [List.drop_eq_getElem_cons hlt] at e
    refine (List.perm_middle (a := left[next k % left.length]) (l₁ := left.take (next k % left.length)) (l₂ := left.drop (next k % left.length + 1))).symm.trans ?_
    rw [e]
theorem row_perm (w : World) (a : Addr) (ep : Nat) (es : Array (Int × Value)) : (rowF w a ep es).toList.Perm es.toList := by
  unfold rowF
  split
  · have := pick_go (w.params.setOrder a ep) es.size 0 es.toList #[] (by simp)
    simpa [pickOrder] using this
  · exact List.Perm.refl _
section
variable {prog : Program} {w : World} {A : Around} {E : Value → Shared → Prop} {s : Shared} {a : Addr} {js : List Nat}
theorem row_size (tk : Nat → Tok) (ep : Nat) : (rowF w a ep (esF tk js).toArray).size = js.length := by
  have := (row_perm w a ep (esF tk js).toArray).length_eq
  rw [Array.length_toList, Array.length_toList, esF_len] at this
  exact this
theorem next6 {tk : Nat → Tok} {it : Addr} {ep i : Nat} {Q : Option Value → Shared → Prop} (hit : SetIt w s.heap it a js ep i) (hS : SetK w s.heap a js tk ep) (hjs : js ∈ subsF 6) (hi : i < js.length)
    (hQ : ∀ v h', (rowF w a ep (esF tk js).toArray)[i]?.map (·.2) = some v → SetIt w h' it a js ep (i + 1) → Heap.SameBut it s.heap h' → Q (some v) { s with heap := h' }) : wpAny (model prog w) A (pyNext (.ref it)) Q E s := by
  obtain ⟨oi, slot, hoi, hci, hdi, hsl⟩ := hit
  obtain ⟨o, ho, hex, hd⟩ := hS
  obtain ⟨hf, hl6, hup, hlt, hbl⟩ := wkF_all _ (led_mem (ledF w)) js hjs
  have hz := esF_len tk js
  have hf' : (tabF (ledF w) js).fits (esF tk js).toArray.size = true := by rw [hz]; exact hf
  have hT : s.TypeIs (.ref it) "set_iterator" := ⟨oi, hoi, hci⟩
  unfold pyNext
  refine wpAny_bind (wpAny_attempt (wpAny_callSpecial?_slot hT slot_setit (wpAny_call_entry slot_setit hT entry_setit ?_ (args_setit _))))
  unfold Builtin.«set_iterator.__next__»
  generalize hN : setNext = SN
  wp_walk using wpAny_fieldsOf hoi hdi, wpAny_setEntries_of ho hd hf'
  subst hN
  rw [Int.toNat_natCast, Int.toNat_natCast, Int.toNat_natCast]
  refine setNext6 (tk := tk) ⟨o, ho, hex, hd⟩ hjs (Nat.le_of_lt hi) hsl ?_
  have hrs := row_size (w := w) (a := a) (js := js) tk ep
  obtain ⟨e, he⟩ : ∃ e, (rowF w a ep (esF tk js).toArray)[i]? = some e := ⟨(rowF w a ep (esF tk js).toArray)[i]'(by omega), by simp [hrs, hi]⟩
  rw [he]
  have ho1 := Heap.get?_update_self (Obj.mapFields (·.setIfInBounds 0 (rawInt ((if w.params.followText "set-order" = true then slot else js.getD i 0 + 1 : Nat) : Int)))) hoi (Obj.isFreed_of_fields (Obj.data_mapFields hdi _))
  have hd1 := Obj.data_mapFields hdi (·.setIfInBounds 0 (rawInt ((if w.params.followText "set-order" = true then slot else js.getD i 0 + 1 : Nat) : Int)))
  have ho2 := Heap.get?_update_self (Obj.mapFields (·.setIfInBounds 1 (rawInt ((i : Int) + 1)))) ho1 (Obj.isFreed_of_fields (Obj.data_mapFields hd1 _))
  have hd2 := Obj.data_mapFields hd1 (·.setIfInBounds 1 (rawInt ((i : Int) + 1)))
  refine wpAny_bind (wpAny_setField hoi hdi (by simp) ?_)
  refine wpAny_bind (wpAny_setField ho1 hd1 (by simp) ?_)
  refine wpAny_pure ⟨_, rfl, wpAny_pure (hQ _ _ (by rw [he]; rfl) ⟨_, if w.params.followText "set-order" = true then slot else js.getD i 0 + 1, ho2, ?_, ?_, fun z => ?_⟩ ((Heap.SameBut.update ..).trans (Heap.SameBut.update ..)))⟩
  · rw [Obj.cls_mapFields, Obj.cls_mapFields]; exact hci
  · rw [hd2]; simp [rawInt]
  · rw [z]; simp
theorem end6 {tk : Nat → Tok} {it : Addr} {ep : Nat} {Q : Option Value → Shared → Prop} (hh : A.handled = none) (hit : SetIt w s.heap it a js ep js.length) (hS : SetK w s.heap a js tk ep) (hjs : js ∈ subsF 6)
    (hQ : ∀ h', Heap.ExtBut it s.heap h' → Q none { s with heap := h' }) : wpAny (model prog w) A (pyNext (.ref it)) Q E s := by
  obtain ⟨oi, slot, hoi, hci, hdi, hsl⟩ := hit
  obtain ⟨o, ho, hex, hd⟩ := hS
  obtain ⟨hf, hl6, hup, hlt, hbl⟩ := wkF_all _ (led_mem (ledF w)) js hjs
  have hz := esF_len tk js
  have hf' : (tabF (ledF w) js).fits (esF tk js).toArray.size = true := by rw [hz]; exact hf
  have hT : s.TypeIs (.ref it) "set_iterator" := ⟨oi, hoi, hci⟩
  unfold pyNext
  refine wpAny_bind (wpAny_attempt (wpAny_callSpecial?_slot hT slot_setit (wpAny_call_entry slot_setit hT entry_setit ?_ (args_setit _))))
  unfold Builtin.«set_iterator.__next__»
  generalize hN : setNext = SN
  wp_walk using wpAny_fieldsOf hoi hdi, wpAny_setEntries_of ho hd hf'
  subst hN
  rw [Int.toNat_natCast, Int.toNat_natCast, Int.toNat_natCast]
  refine setNext6 (tk := tk) ⟨o, ho, hex, hd⟩ hjs (Nat.le_refl _) hsl ?_
  have hrs := row_size (w := w) (a := a) (js := js) tk ep
  have he : (rowF w a ep (esF tk js).toArray)[js.length]? = none := by simp [hrs]
  rw [he]
  refine wpAny_bind (wpAny_setField hoi hdi (by simp) ?_)
  unfold newExc raiseNew newTuple firstArgMember
  wp_walk using wpAny_newObj_type
  all_goals first
    | (show wpAny _ _ (isSubtype (.type "StopIteration") (.type "StopIteration")) _ _ _
       rw [isSubtype_stop]
       exact wpAny_pure (wpAny_pure (hQ _ (((Heap.SameBut.update ..).extBut.push _).push _))))
    | (unfold autoParam; size_fits)
    | size_fits
end
section
variable {prog : Program} {w : World} {A : Around} {E : Value → Shared → Prop} {s : Shared} {a : Addr} {js : List Nat}
theorem hint6 {Q : Bool → Shared → Prop} (hT : s.TypeIs (.ref a) "set") (h : Q false s) : wpAny (model prog w) A (Builtin.List.listLengthHint (.ref a)) Q E s := by
  have i2 : splitId "set.__len__" = some ("set", "__len__") := by decide +kernel
  unfold Builtin.List.listLengthHint
  refine wpAny_bind (wpAny_specialOf hT F.slot_set_len.lookup ?_)
  dsimp only
  rw [i2]
  refine wpAny_bind (wpAny_isInstance (T := "set") (b := true) hT sub_set_self (wpAny_ite_split (fun z => absurd z (by decide)) fun _ => ?_))
  refine wpAny_ite_split (fun _ => wpAny_bind (wpAny_typeOf hT (wpAny_pure h))) fun z => absurd (by decide +kernel) z
theorem SetK.keep {tk : Nat → Tok} {ep : Nat} {h h' : Heap} (x : SetK w h a js tk ep) (k : ∀ o, h.get? a = some o → h'.get? a = some o) : SetK w h' a js tk ep := by
  obtain ⟨o, e, r⟩ := x
  exact ⟨o, k o e, r⟩
theorem SetIt.keep {it : Addr} {ep i : Nat} {h h' : Heap} (x : SetIt w h it a js ep i) (k : ∀ o, h.get? it = some o → h'.get? it = some o) : SetIt w h' it a js ep i := by
  obtain ⟨o, sl, e, r⟩ := x
  exact ⟨o, sl, k o e, r⟩
theorem slot_setself : Slot "set_iterator" "__iter__" "set_iterator.__iter__" :=
  .of (owner := "set_iterator") (n := "__iter__") (by rw [typeLookup_type, builtinLookup_eq_fast]; kernel_rfl) (by decide +kernel) (by decide +kernel) (by decide +kernel)
    (by first | exact .inl (by decide +kernel) | exact .inr (by decide +kernel)) (by rw [isSubtype_type]; kernel_rfl)
theorem entry_setself : entryFor table "set_iterator.__iter__" = some Builtin.«dict_keyiterator.__iter__» := entryFor_alias (id' := "dict_keyiterator.__iter__") (by kernel_rfl) rfl (by decide +kernel) (by kernel_rfl)
theorem args_setself (a : Value) : argsOk "set_iterator.__iter__" ⟨[a], []⟩ := by
  unfold argsOk; rw [signature?_of (id := "set_iterator.__iter__") (n := ['_', '_', 'r', 'e', 't', 'i', '_', '_']) (o := ['r', 'o', 't', 'a', 'r', 'e', 't', 'i', '_', 't', 'e', 's']) (by kernel_rfl) owner_setit]; kernel_rfl
theorem self6 {it : Addr} {Q : Value → Shared → Prop} (hT : s.TypeIs (.ref it) "set_iterator") (hQ : Q (.ref it) s) : wpAny (model prog w) A (pyIter (.ref it)) Q E s := by
  refine wpAny_pyIter_slot hT slot_setself (wpAny_call_entry slot_setself hT entry_setself ?_ (args_setself _))
  unfold Builtin.«dict_keyiterator.__iter__»
  wp_walk
  exact ⟨_, rfl, "set_iterator", _, hT, slot_setit.lookup, hQ⟩
theorem src6 {tk : Nat → Tok} {ep : Nat} (hjs : js ∈ subsF 6) : PySem.W.KdlSrc prog w "set" a a js.length (fun i v => (rowF w a ep (esF tk js).toArray)[i]?.map (·.2) = some v) (fun h => SetK w h a js tk ep) where
  type := fun _ ⟨o, ho, hex, _⟩ => ⟨o, ho, hex.1⟩
  there := fun _ ⟨o, ho, _⟩ => ⟨Heap.lt_size ho, Heap.lt_size ho⟩
  keep := fun _ _ hm hk => hm.keep fun o e => hk a (.inl rfl) o e
  notList := by decide
  notTuple := by decide
  hint := fun _ _ _ _ ⟨o, ho, hex, _⟩ hq => hint6 ⟨o, ho, hex.1⟩ hq
  iter := fun A s hh hm => ⟨_, fun i h => SetIt w h s.heap.objs.size a js ep i ∧ SetK w h a js tk ep, fun _ _ hq => iter6 hm hjs hq, by
    obtain ⟨o, ho, hr⟩ := id hm
    have ne : a ≠ s.heap.objs.size := Nat.ne_of_lt (Heap.lt_size ho)
    refine ⟨fun b hb => List.mem_cons.mpr (.inl (List.mem_singleton.mp hb)), fun i h h' ⟨x, y⟩ k => ⟨x.keep fun o e => k _ (by simp) o e, y.keep fun o e => k _ (by simp) o e⟩, fun i s' Q E hi ⟨x, y⟩ hQ => ?_, fun s' Q E ⟨x, y⟩ hQ => ?_, fun i s' Q E ⟨x, y⟩ hQ => ?_⟩
    · refine next6 x y hjs hi fun v h' hv x' sb => ?_
      exact hQ v h' s'.toks hv ⟨x', y.keep fun o e => (sb.2 a ne).trans e⟩ fun b o hb e => (sb.2 b (fun z => hb (by simp [z]))).trans e
    · exact end6 hh x y hjs fun h' eb => hQ h' s'.toks fun b o hb e => eb b o (fun z => hb (by simp [z])) e
    · obtain ⟨o, sl, e, c, _⟩ := x
      exact self6 ⟨o, e, c⟩ hQ, ⟨⟨_, 0, Heap.get?_push_size _ rfl, rfl, rfl, fun _ => by simp⟩, hm.keep fun o e => Heap.get?_push_of_some _ e⟩⟩
end
/-- a set of ints below 6 -/
def IsSet (w : World) (a : Addr) (js : List Nat) : HO := .ext fun h => SetAt w h a js
section
variable {X : Cx}
theorem up_eq {js : List Nat} (up : js.Pairwise (· < ·)) {ns : List Int} (hp : ns.Perm (js.map fun (j : Nat) => (j : Int))) (hs : ns.Pairwise (· ≤ ·)) : ns = js.map fun (j : Nat) => (j : Int) := by
  have up' : (js.map fun (j : Nat) => (j : Int)).Pairwise (· ≤ ·) := by
    rw [List.pairwise_map]
    exact up.imp fun h => by omega
  exact List.Perm.eq_of_pairwise (fun a b _ _ h1 h2 => Int.le_antisymm h1 h2) hs up' hp
theorem ints_perm {tk : Nat → Tok} {l : List Nat} {vs : List Value} (h : vs.Perm (l.map fun (j : Nat) => Value.int (j : Int) (tk j))) : ∃ ns, IntsAre vs ns ∧ ns.Perm (l.map fun (j : Nat) => (j : Int)) := by
  have all : ∀ v ∈ vs, ∃ (z : Int) (t : Tok), v = Value.int z t := fun v hv => by
    obtain ⟨j, _, rfl⟩ := List.mem_map.mp (h.mem_iff.mp hv)
    exact ⟨_, _, rfl⟩
  let f : Value → Int := fun v => match v with | .int z _ => z | _ => 0
  refine ⟨vs.map f, ?_, ?_⟩
  · clear h
    induction vs with
    | nil => exact .nil
    | cons v r ih =>
      obtain ⟨z, t, rfl⟩ := all v (List.mem_cons_self ..)
      exact .cons z t (ih fun u hu => all u (List.mem_cons_of_mem _ hu))
  · have := h.map f
    rw [List.map_map] at this
    exact this
/-- set(xs), xs a list of ints from 0 to 5 -/
theorem call_setI (hc : X.calm = true) : CallR X (.type "set") (fun xs H Q => ∃ (p : Addr) (ns : List Int), xs = [.ref p] ∧ SqL X.K H p (ns.map V.int) ∧ (∀ z ∈ ns, 0 ≤ z ∧ z < 6) ∧
    ∀ (q : Addr) (js : List Nat), H q = none → js ∈ subsF 6 → (∀ k : Nat, k ∈ js ↔ (k : Int) ∈ ns) → Q (.ref q) (upd H q (IsSet X.w q js))) := by
  intro pins s σ H xs us Q I r h
  obtain ⟨p, ns, rfl, hq, h6, q⟩ := h
  obtain ⟨u, rfl, rx⟩ := vals1 r
  cases rx
  obtain ⟨its, r', pl, hz⟩ := I.list hq
  refine call_set6 (I.ok.hd hc) pl.isList (intsAre_of r') h6 fun h' tk js a1 a2 a3 a4 => ?_
  have hn : H s.heap.objs.size = none := I.fresh
  obtain ⟨o, _, _, ho, _⟩ := id a3
  exact ⟨.ref s.heap.objs.size, _, I.laid (a := s.heap.objs.size) (o := IsSet X.w s.heap.objs.size js) (t' := tk) a4 (Nat.le_refl _) ⟨a3, ⟨o, ho⟩, fun h1 h2 x k => x.keep k⟩, rfl, q _ js hn a1 a2⟩
/-- sorted(s), s such a set -/
theorem call_sortedS (hc : X.calm = true) : CallR X (.builtin "sorted") (fun xs H Q => ∃ (p : Addr) (js : List Nat), xs = [.ref p] ∧ H p = some (IsSet X.w p js) ∧ js ∈ subsF 6 ∧
    ∀ q : Addr, H q = none → Q (.ref q) (upd H q (.lst (js.map fun (j : Nat) => V.int j)))) := by
  intro pins s σ H xs us Q I r h
  obtain ⟨p, js, rfl, hq, hjs, q⟩ := h
  obtain ⟨u, rfl, rx⟩ := vals1 r
  cases rx
  obtain ⟨hS, _, _⟩ := I.hok p _ hq
  obtain ⟨o, tk, ep, ho, hex, hd⟩ := hS
  obtain ⟨hf, hl6, hup, hlt, _⟩ := wkF_all _ (led_mem (ledF X.w)) js hjs
  have line : js.length ≤ sizeLine := by rw [sizeLine_eq]; omega
  refine Calls.call_function_entry kind_sorted plain_sorted entry_sorted (args_sorted1 _) ?_
  show wpAny (model X.prog X.w) X.A.in1 (do checkCount "sorted" 1 1 _; _) _ _ s
  refine wpAny_bind (m := checkCount "sorted" 1 1 _) (wpAny_pure (wpAny_bind (PySem.W.kdu_collect (A := X.A.in1) (src6 (tk := tk) (ep := ep) hjs) (I.ok.hd hc) ⟨o, ho, hex, hd⟩ line fun h' tk' acc hk hacc => ?_)))
  have hl : acc.toList.length = js.length := by rw [Array.length_toList]; exact hacc.1
  refine wpAny_bind (wpAny_newList ?_ (by rw [hl]; exact line))
  have hrs := row_size (w := X.w) (a := p) (js := js) tk ep
  have eacc : acc.toList = (rowF X.w p ep (esF tk js).toArray).toList.map (·.2) := by
    refine List.ext_getElem? fun i => ?_
    rw [List.getElem?_map, Array.getElem?_toList, Array.getElem?_toList]
    cases e : acc[i]? with
    | some v => rw [hacc.2 i v e]
    | none =>
      have : js.length ≤ i := by rw [← hacc.1]; exact Array.getElem?_eq_none_iff.mp e
      rw [Array.getElem?_eq_none (by omega)]
      rfl
  have at1 : (h'.push (seqObj "list" acc.toList.toArray 0)).get? h'.objs.size = some (seqObj "list" acc.toList.toArray 0) := Heap.get?_push_size _ rfl
  have hI : ∃ ns, IntsAre acc.toList ns ∧ ns.Perm (js.map fun (j : Nat) => (j : Int)) := by
    have hpm := (row_perm X.w p ep (esF tk js).toArray).map (·.2)
    rw [← eacc, List.toList_toArray] at hpm
    exact ints_perm (l := js) (tk := tk) (by simpa [esF, Function.comp_def] using hpm)
  obtain ⟨ns, hI, hperm⟩ := hI
  refine wpAny_bind (wpAny_holding (wpAny_call_entry slot_list_sort ⟨_, at1, rfl⟩ entry_list_sort (list_sort_tree at1 hI (by rw [hl]; omega) fun out ns' a1 a2 a3 => ⟨_, rfl, ?_⟩) (args_list_sort _)))
  have I1 : Inv X pins σ H { s with heap := h', toks := tk' } := I.kept hk
  obtain ⟨e, he⟩ := sortedHeap_at (out := out) at1
  have old : ∀ b o, h'.get? b = some o → (sortedHeap (h'.push (seqObj "list" acc.toList.toArray 0)) h'.objs.size acc.toList out).get? b = some o := fun b o z =>
    (sortedHeap_old (Nat.ne_of_lt (Heap.lt_size z)) (Heap.lt_size (Heap.get?_push_of_some _ z))).trans (Heap.get?_push_of_some _ z)
  have hn : H h'.objs.size = none := I1.hok.fresh (Nat.le_refl _)
  have e3 := up_eq hup (a2.trans hperm) a3
  refine wpAny_pure ⟨_, rfl, .ref h'.objs.size, _, I1.laid (a := h'.objs.size) (o := .lst (js.map fun (j : Nat) => V.int j)) (t' := tk') old (Nat.le_refl _) ⟨?_, out.toList, e, ?_, he⟩, rfl, q _ hn⟩
  · rw [List.length_map]; exact line
  · have := vals_ofInts a1
    rw [e3, List.map_map] at this
    exact this
end
end L2
/-! OWN RULES: != of two dicts that tell the same -/
namespace L2
open PySem PySem.Spec PyProof.Rows
section
variable {K : Type} [DecidableEq K]
theorem idx_at {kvs : List (K × Value)} (nd : (kvs.map (·.1)).Nodup) {i : Nat} {k : K} {v : Value} (h : kvs[i]? = some (k, v)) : (kvs.findIdx? fun kv => decide (kv.1 = k)) = some i := by
  obtain ⟨hi, e⟩ := List.getElem?_eq_some_iff.mp h
  refine List.findIdx?_eq_some_iff_getElem.mpr ⟨hi, by simp [e], fun j hj => ?_⟩
  simp only [decide_eq_true_eq]
  intro z
  have hj' : j < kvs.length := Nat.lt_trans hj hi
  have e1 : (kvs.map (·.1))[j]'(by simpa using hj') = (kvs.map (·.1))[i]'(by simpa using hi) := by
    rw [List.getElem_map, List.getElem_map, e]
    exact z
  have := (List.getElem_inj nd).mp e1
  omega
end
section
variable {prog : Program} {w : World} {A : Around} {E : Value → Shared → Prop} {s : Shared}
theorem same_pairs {id : String} {a b : Addr} {oa ob : Obj} {es fs : Array DictEntry} {ep eq : Nat} {Q : Bool → Shared → Prop} (ha : (a == sysModules) = false) (hb : (b == sysModules) = false) (h1 : s.heap.get? a = some oa) (h2 : oa.ExactDict) (h3 : oa.data = .dict es ep)
    (h4 : s.heap.get? b = some ob) (h5 : ob.ExactDict) (h6 : ob.data = .dict fs eq) (hz : es.size = fs.size) (hik : IntKeys fs)
    (hf : ∀ (i : Nat) (e : DictEntry), es[i]? = some e → ∃ k t, e.key = .int k t ∧ e.hash = hashInt k ∧ (fs.findIdx? fun f => Value.isInt k f.key) = some i)
    (hv : ∀ (i : Nat) (e f : DictEntry), es[i]? = some e → fs[i]? = some f → SeqAt.EqAt A s e.val f.val true) (hQ : Q true s) :
    wpAny (model prog w) A (Builtin.Dict.samePairs id a b) Q E s := by
  unfold Builtin.Dict.samePairs
  have hsh : ∀ {c : Addr} {Q' : Unit → Shared → Prop}, (c == sysModules) = false → Q' () s → wpAny (model prog w) A (Builtin.Dict.showsAll c) Q' E s := fun {c Q'} hc hq => by
    unfold Builtin.Dict.showsAll
    rw [hc]
    exact wpAny_pure hq
  refine wpAny_bind (hsh ha (wpAny_bind (hsh hb (wpAny_bind (wpAny_dictEntries h1 h3 ?_)))))
  dsimp only
  refine wpAny_bind (wpAny_dictEntries h4 h6 ?_)
  refine wpAny_ite_split (fun z => absurd z (by simp [hz])) fun _ => ?_
  refine wpAny_bind (wpAny_dictEpoch h1 h3 ?_)
  simp only [Std.Legacy.Range.forIn_eq_forIn_range']
  refine wpAny_bind (wpAny_forIn_list _ (fun rest b s' => b.1 = none ∧ s' = s ∧ ∃ i, rest = List.range' i (es.size - i)) _ (fun i rest b' s' hI => ?_) (fun b' s' hI => ?_) _ _ ⟨rfl, rfl, 0, ?_⟩)
  · obtain ⟨hb1, rfl, j, hj⟩ := hI
    have hlt : j < es.size := by
      rcases Nat.lt_or_ge j es.size with q | q
      · exact q
      · rw [show es.size - j = 0 by omega] at hj
        cases hj
    rw [show es.size - j = es.size - (j + 1) + 1 by omega, List.range'_succ] at hj
    injection hj with hij hrest
    subst hij
    have he : es[i]? = some es[i] := Array.getElem?_eq_getElem hlt
    have hlt2 : i < fs.size := by omega
    have hff : fs[i]? = some fs[i] := Array.getElem?_eq_getElem hlt2
    obtain ⟨k, t, e1, e2, e3⟩ := hf i _ he
    refine wpAny_bind (wpAny_dictEntries h1 h3 ?_)
    rw [he]
    dsimp only
    refine wpAny_bind (wpAny_holding (wpAny_bind ?_))
    rw [e1, e2]
    refine wpAny_dictFind_int h4 h6 hik ?_
    rw [e3]
    dsimp only
    refine wpAny_bind (wpAny_dictEntries h4 h6 ?_)
    rw [hff]
    dsimp only
    refine wpAny_holding (hv i _ _ he hff prog w E _ ?_)
    refine wpAny_ite_split (fun z => absurd z (by decide)) fun _ => ?_
    refine wpAny_bind (wpAny_dictEpoch h1 h3 ?_)
    refine wpAny_ite_split (fun z => absurd z (by simp)) fun _ => ?_
    exact wpAny_pure ⟨rfl, rfl, i + 1, hrest⟩
  · obtain ⟨hb1, rfl, _⟩ := hI
    rw [hb1]
    exact wpAny_pure hQ
  · simp
theorem dict_ne_same (a b : Addr) (ha : (a == sysModules) = false) (hb : (b == sysModules) = false) :
    Meets (Builtin.«dict.__ne__» ⟨[.ref a, .ref b], []⟩) (fun A R s => (∃ oa ob, ∃ (es fs : Array DictEntry), ∃ ep eq, s.heap.get? a = some oa ∧ oa.ExactDict ∧ oa.data = .dict es ep ∧ s.heap.get? b = some ob ∧ ob.ExactDict ∧ ob.data = .dict fs eq ∧ es.size = fs.size ∧
      IntKeys fs ∧ (∀ (i : Nat) (e : DictEntry), es[i]? = some e → ∃ k t, e.key = .int k t ∧ e.hash = hashInt k ∧ (fs.findIdx? fun f => Value.isInt k f.key) = some i) ∧
      (∀ (i : Nat) (e f : DictEntry), es[i]? = some e → fs[i]? = some f → SeqAt.EqAt A.in1 s e.val f.val true)) ∧ R (.ok (.ret (.bool false))) s) :=
  .of_wp fun prog w A R s h => by
    obtain ⟨hp, g, d, tk, os⟩ := s
    obtain ⟨⟨oa, ob, es, fs, ep, eq, h1, h2, h3, h4, h5, h6, hz, hik, hf, hv⟩, h⟩ := h
    have hT : Shared.TypeIs ⟨hp, g, d, tk, os⟩ (.ref a) "dict" := ⟨oa, h1, h2.1⟩
    have hT2 : Shared.TypeIs ⟨hp, g, d, tk, os⟩ (.ref b) "dict" := ⟨ob, h4, h5.1⟩
    have i1 : isSubtype (.type "dict") (.type "dict") = pure true := by rw [isSubtype_type]; kernel_rfl
    have sp := fun (id : String) (Q : Bool → Shared → Prop) (E : Value → Shared → Prop) (hQ : Q true _) => same_pairs (prog := prog) (w := w) (A := A.in1) (E := E) (s := ⟨hp, g, d, tk, os⟩) (id := id) (Q := Q) ha hb h1 h2 h3 h4 h5 h6 hz hik hf hv hQ
    unfold Builtin.«dict.__ne__»
    wp_walk using wpAny_notOrdered_dict hT, wpAny_typeOf hT, wpAny_typeOf hT2, sp _ _ _
    exact ⟨_, rfl, h⟩
end
/-- d != e: two dicts with the same int keys in one row, and equal values -/
def rNeDI (K : PySem.W.Frag) : R2 := fun x y H Q => ∃ (a b : Addr) (ks : List Int) (xs ys : List V) (ds es : List Dt), x = .ref a ∧ y = .ref b ∧ H a = some (.dK ((ks.map Sum.inl).zip xs)) ∧ H b = some (.dK ((ks.map Sum.inl).zip ys)) ∧
  xs.length = ks.length ∧ ys.length = ks.length ∧ HasDs K H ds xs ∧ HasDs K H es ys ∧ eqDs ds es = true ∧ depDs ds ≤ 50 ∧ Q (.bl false) H
section
variable {X : Cx}
theorem pget5 {α β : Type} {F : α → β → Prop} : ∀ {l : List α} {m : List β} {i : Nat} {a : α} {b : β}, Paired F l m → l[i]? = some a → m[i]? = some b → F a b
  | _, _, i, a, b, .nil, h, _ => by simp at h
  | _, _, 0, a, b, .cons r t, h1, h2 => by
    simp at h1 h2
    rw [← h1, ← h2]
    exact r
  | _, _, i + 1, a, b, .cons r t, h1, h2 => pget5 t (by simpa using h1) (by simpa using h2)
theorem entry_int {ks : List Int} {xs : List V} {es : Array DictEntry} {vs : List (Key × Value)} (hk : KV ((ks.map Sum.inl).zip xs) vs) (h1 : KeysOf (mixKind X.prog X.w) es) (h2 : Pairs (mixKind X.prog X.w) es.toList vs) (lx : xs.length = ks.length) :
    es.size = ks.length ∧ ∀ (i : Nat) (e : DictEntry), es[i]? = some e → ∃ k t x, ks[i]? = some k ∧ xs[i]? = some x ∧ e.key = .int k t ∧ e.hash = hashInt k ∧ RelV x e.val ∧ vs[i]? = some (.inl k, e.val) := by
  have l1 : vs.length = ks.length := by
    have := Paired.length hk
    rw [List.length_zip, List.length_map] at this
    omega
  have l2 : es.size = ks.length := by
    have := h2.length
    rw [Array.length_toList] at this
    omega
  refine ⟨l2, fun i e he => ?_⟩
  have hi : i < es.size := (Array.getElem?_eq_some_iff.mp he).1
  have hi1 : i < vs.length := by omega
  obtain ⟨⟨k', v⟩, hv⟩ : ∃ p, vs[i]? = some p := ⟨vs[i], by simp [hi1]⟩
  obtain ⟨g1, g2⟩ := h2.get? (by rw [Array.getElem?_toList]; exact he) hv
  have hz : ((ks.map Sum.inl).zip xs)[i]? = some ((Sum.inl (ks[i]'(by omega)) : Key), xs[i]'(by omega)) := by
    rw [List.getElem?_zip_eq_some]
    constructor
    · simp
    · simp
  obtain ⟨r1, r2⟩ := pget5 hk hz hv
  have r1' : (Sum.inl (ks[i]'(by omega)) : Key) = k' := r1
  subst r1'
  obtain ⟨t, et⟩ := Value.isInt_shape (k := ks[i]'(by omega)) (v := e.key) g1
  obtain ⟨k2, q1, q2⟩ := h1 e (Array.mem_of_getElem? he)
  have hk2 : k2 = Sum.inl (ks[i]'(by omega)) := (mixKind X.prog X.w).inj e.key _ _ q1 g1
  rw [hk2] at q2
  subst g2
  exact ⟨ks[i]'(by omega), t, xs[i]'(by omega), by simp, by simp, et, q2, r2, hv⟩
theorem eqDs_at : ∀ {ds es : List Dt} {i : Nat} {d e : Dt}, eqDs ds es = true → ds[i]? = some d → es[i]? = some e → eqD d e = true
  | [], _, _, _, _, _, h, _ => by simp at h
  | _ :: _, [], _, _, _, _, _, h => by simp at h
  | a :: as, b :: bs, 0, d, e, h, h1, h2 => by
    rw [eqDs, Bool.and_eq_true] at h
    simp at h1 h2
    rw [← h1, ← h2]
    exact h.1
  | a :: as, b :: bs, i + 1, d, e, h, h1, h2 => by
    rw [eqDs, Bool.and_eq_true] at h
    exact eqDs_at h.2 (by simpa using h1) (by simpa using h2)
theorem op_neDI (hu : X.A.units + 64 < cLine) : OpR X (compareOp .NotEq) (rNeDI X.K) := by
  intro pins s σ H x y v u Q I rx ry h
  obtain ⟨a, b, ks, xs, ys, ds, es, rfl, rfl, ha, hb, lx, ly, hd, he', heq, hdep, q⟩ := h
  cases rx
  cases ry
  obtain ⟨_, na, va, ka, oa, fa, ep, a1, a2, a3, a4, a5, a6⟩ := I.hok a _ ha
  obtain ⟨_, nb, vb, kb, ob, fb, eb, b1, b2, b3, b4, b5, b6⟩ := I.hok b _ hb
  refine richCompare_meets_room (op := .NotEq) ⟨oa, a1, a2.1⟩ ⟨ob, b1, b2.1⟩ F.slot_dict_ne F.entry_dict_ne (F.args_dict_ne_2 _ _) (dict_ne_same a b na nb)
    ⟨⟨oa, ob, fa, fb, ep, eb, a1, a2, a3, b1, b2, b3, ?_, ?_, ?_, ?_⟩, show Value.bool false ≠ Value.notImplemented ∧ EP X pins σ Q (.bool false) s from ⟨(fun z => nomatch z), .bl false, H, I, rfl, q⟩⟩ (by omega)
  · rw [(entry_int ka a4 a5 lx).1, (entry_int kb b4 b5 ly).1]
  · intro e he
    obtain ⟨i, hi, rfl⟩ := Array.mem_iff_getElem.mp he
    obtain ⟨k, t, x, _, _, e1, e2, _⟩ := (entry_int kb b4 b5 ly).2 i _ (Array.getElem?_eq_getElem hi)
    exact ⟨k, t, e1, e2⟩
  · intro i e he
    obtain ⟨k, t, x, k1, x1, e1, e2, _⟩ := (entry_int ka a4 a5 lx).2 i e he
    have hi : i < fb.size := by
      rw [(entry_int kb b4 b5 ly).1]
      exact (List.getElem?_eq_some_iff.mp k1).1
    obtain ⟨k', t', x', k2, _, _, _, _, e6⟩ := (entry_int kb b4 b5 ly).2 i _ (Array.getElem?_eq_getElem hi)
    rw [k1] at k2
    cases k2
    refine ⟨k, t, e1, e2, ?_⟩
    have q1 := b5.findIdx (Sum.inl k)
    rw [idx_at b6 e6] at q1
    have q2 : (fb.findIdx? fun f => Value.isInt k f.key) = fb.toList.findIdx? fun f => Value.isInt k f.key := by
      cases fb
      simp
    rw [q2]
    exact q1
  · intro i e f he hf
    obtain ⟨k, t, x, k1, x1, e1, e2, r1, _⟩ := (entry_int ka a4 a5 lx).2 i e he
    obtain ⟨k', t', y, k2, y1, f1, f2, r2, _⟩ := (entry_int kb b4 b5 ly).2 i f hf
    obtain ⟨d, d1, d2⟩ := hd.get x1
    obtain ⟨d', d3, d4⟩ := he'.get y1
    have := eqAt_D I 50 d d' x y e.val f.val X.A.in1 (Nat.le_trans (dep_get d1) hdep) (by rw [Around.in1_units]; omega) d2 d4 r1 r2
    rw [eqDs_at heq d1 d3] at this
    exact this
end
end L2
/-! OWN RULES: min of a list of tuples of ints that rise; a dict comprehension over the keys of a dict of tuples -/
namespace L2
open PySem PySem.Spec PyProof.Rows
theorem lt2 {n c : Nat} (h : n + 64 < c) : n + 2 < c := by omega
section
variable {X : Cx}
theorem argBest0 : ∀ k : Nat, argBest (fun _ _ => false) k = 0
  | 0 => rfl
  | k + 1 => by unfold argBest; rw [argBest0 k]; rfl
/-- min(xs), xs a list of tuples of ints, the first the least -/
theorem call_minT (hc : X.calm = true) (hu : X.A.units + 2 < cLine) : CallR X (.builtin "min") (fun xs H Q => ∃ (p : Addr) (vs : List V) (x : V) (ts : List (List Int)), xs = [.ref p] ∧ SqL X.K H p (x :: vs) ∧ TupsAt X.K H (x :: vs) ts ∧ ts.Pairwise (fun a b => HT.lexLt b a = false) ∧ Q x H) := by
  intro pins s σ H xs us Q I r h
  obtain ⟨p, vs, x, ts, rfl, hq, ht, up, q⟩ := h
  obtain ⟨u, rfl, rx⟩ := vals1 r
  cases rx
  obtain ⟨its, r', pl, hz⟩ := I.list hq
  have tt : Paired (fun u t => ∃ a xs, u = Value.ref a ∧ IsTup s.heap a xs ∧ IntsAre xs.toList t) its ts := paired_two (fun v u t hv hu => by
    obtain ⟨a, rfl, ha⟩ := hu
    cases hv
    obtain ⟨ys, ry, hy, _⟩ := I.tuple ha
    exact ⟨a, ys.toArray, rfl, hy, intsAre_of ry⟩) r' ht
  have hl := r'.length
  refine min_of (bt := fun _ _ => false) (I.ok.hd hc) pl.isList (by rw [← hl]; simp) (fun i j vi vj s' Q' E' hji hi hj k hq' => ?_) fun v h' tk hv k => ?_
  · have li : i < its.length := (List.getElem?_eq_some_iff.mp hi).1
    obtain ⟨a, xs, ea, ⟨o, ho, hr⟩, ia⟩ := paired_at (d := Value.none) (e := []) tt li
    obtain ⟨b, ys, eb, ⟨o', ho', hr'⟩, ib⟩ := paired_at (d := Value.none) (e := []) tt (show j < its.length by omega)
    rw [List.getD_eq_getElem?_getD, hi] at ea
    rw [List.getD_eq_getElem?_getD, hj] at eb
    have ea' : vi = Value.ref a := ea
    have eb' : vj = Value.ref b := eb
    subst ea' eb'
    have lt := Paired.length tt
    have hlex : HT.lexLt (ts.getD i []) (ts.getD j []) = false := by
      have h1 : i < ts.length := by omega
      have h2 : j < ts.length := by omega
      have := List.pairwise_iff_getElem.mp up j i h2 h1 hji
      simpa [List.getD_eq_getElem?_getD, h1, h2] using this
    refine HT.lt_tupInts ⟨o, k a o ho, hr⟩ ⟨o', k b o' ho', hr'⟩ ia ib (by rw [Around.in1_units]; omega) ?_
    rw [hlex]; exact hq'
  · rw [argBest0] at hv
    cases r' with
    | cons r1 r2 =>
      cases hv
      exact ⟨x, H, I.kept (t' := tk) k, r1, q⟩
end
/-- the keys of a dict of tuples walked, in a dict comprehension -/
theorem dc_dT {a D : Addr} {o : Obj} {kvs : List (List Key × V)} {g : TG} {ti : TT} {tk tv : TE} {σ0 : St} {H0 : Hp} {QF : Hp → Prop} (Pv : Nat → St → Hp → Prop) (h0 : Pv 0 σ0 H0) (hl : ∀ i σ H, i ≤ kvs.length → Pv i σ H → H a = some (.frz o (.dT kvs)))
    (hs : ∀ i kv b σ H, kvs[i]? = some kv → H b = some (.tup (kv.1.map kV)) → Pv i σ H → g (.ref b) σ H fun σ2 H2 => ti σ2 H2 fun c H3 => if c = true then tk σ2 H3 fun y H4 => tv σ2 H4 fun z H5 => ∃ H6, DPut H5 D y z H6 ∧ Pv (i + 1) σ2 H6 else Pv (i + 1) σ2 H3)
    (hd : ∀ σ H, Pv kvs.length σ H → QF H) : ∃ W : Nat → Nat → St → Hp → Prop, (∃ m, W 0 m σ0 H0) ∧ DcW (ItdT a o kvs) g ti tk tv D QF W := by
  refine ⟨fun i m σ H => m = kvs.length - i ∧ i ≤ kvs.length ∧ Pv i σ H, ⟨kvs.length, by simp, Nat.zero_le _, h0⟩, ?_⟩
  rintro i m σ H ⟨rfl, hi, p⟩
  have q := hl i σ H hi p
  by_cases hlt : i < kvs.length
  · refine .inr ⟨⟨hlt, q⟩, Pv (i + 1), fun σ' H' p' => ⟨kvs.length - (i + 1), by omega, rfl, hlt, p'⟩, fun x H' y => ?_⟩
    obtain ⟨e, kv, b, ek, ex, eb⟩ := y
    subst e ex
    exact hs i kv b σ _ ek eb p
  · have e : i = kvs.length := by omega
    subst e
    exact .inl ⟨⟨Nat.le_refl _, q⟩, hd σ H p⟩
/-- a, b, c = (x, y, z) with plain local names -/
def tPar3 (i j k : Nat) (ta : TA) : TS := fun D σ H => ta σ H fun vs H1 => ∃ v w z, vs = [v, w, z] ∧ D.nx (((σ.set i (some v)).set j (some w)).set k (some z)) H1
theorem ps_par3 {X : Cx} {i j k : Nat} {x y z : Str} {a b c : Expr} {ta : TA} {px py pz pt pos : Pos} {kt k2 pt2} (hc : X.calm = true) (hN : X.N.Nodup) (hi : X.N[i]? = some x) (hj : X.N[j]? = some y) (hk : X.N[k]? = some z) (hij : i ≠ j ∧ i ≠ k ∧ j ≠ k)
    (hx : X.env.scope.names.lookup x = some .local) (hy : X.env.scope.names.lookup y = some .local) (hz : X.env.scope.names.lookup z = some .local) (ha : PA X [a, b, c] ta)
    (hw : swappedStores [.Tuple [.Name x px, .Name y py, .Name z pz] kt pt] (.Tuple [a, b, c] k2 pt2) X.env = pure (some [x, y, z]))
    (hs : swapsWithSole [.Tuple [.Name x px, .Name y py, .Name z pz] kt pt] (.Tuple [a, b, c] k2 pt2) pos.line X.env = pure false := by rfl) :
    PS X (.Assign [.Tuple [.Name x px, .Name y py, .Name z pz] kt pt] (.Tuple [a, b, c] k2 pt2) pos) (tPar3 i j k ta) := by
  intro pins s σ H D I h
  refine Assign_Tuple_swapped (Tuple_ (thn (ha _ pins s σ H _ I h) fun us s1 ⟨vs, H1, I1, r1, q1⟩ => ?_)) hs hw
  obtain ⟨v, w, u, e1, q1⟩ := q1
  subst e1
  obtain ⟨u1, u2, u3, rfl, r1, r2, r3⟩ : ∃ u1 u2 u3, us = [u1, u2, u3] ∧ RelV v u1 ∧ RelV w u2 ∧ RelV u u3 := by
    cases r1 with
    | cons p q =>
      cases q with
      | cons p' q' =>
        cases q' with
        | cons p'' q'' =>
          cases q''
          exact ⟨_, _, _, rfl, p, p', p''⟩
  refine wpAny_newObj_type ?_ (by show 3 ≤ sizeLine; decide)
  have I2 : Inv X pins σ H1 { s1 with heap := s1.heap.push { cls := .type "tuple", data := .seq [u1, u2, u3].toArray } } := I1.kept (t' := s1.toks) fun b o e => Heap.get?_push_of_some _ e
  refine unpackItems_tuple (items := #[u1, u2, u3]) (I.ok.hd hc) (IsTup.new s1.heap _) fun h' hx' => ?_
  have I3 := I2.kept (h' := h') (t' := s1.toks) fun b o e => hx' b o (Nat.ne_of_lt (Heap.lt_size e)) e
  show wpAny _ _ (assignInOrder [fun v => bindName X.env z v, fun v => bindName X.env y v, fun v => bindName X.env x v] [u3, u2, u1]) _ _ _
  refine assignInOrder_cons (wpAny_bindName (store_ok I3 hN hk (.inl hz) r3 (fun s2 I4 => ?_) (.inr hz)))
  refine assignInOrder_cons (wpAny_bindName (store_ok I4 hN hj (.inl hy) r2 (fun s3 I5 => ?_) (.inr hy)))
  refine assignInOrder_cons (wpAny_bindName (store_ok I5 hN hi (.inl hx) r1 (fun s4 I6 => assignInOrder_nil ?_) (.inr hx)))
  rw [List.set_comm _ _ (Ne.symm hij.2.2), List.set_comm _ _ (Ne.symm hij.2.1), List.set_comm _ _ (Ne.symm hij.1)] at I6
  exact ⟨_, H1, I6, q1⟩
section
variable {X : Cx} {K : PySem.W.Frag}
theorem sl_tupK (hK : X.K = K) : SlR X (rSlT K) := by
  subst hK
  exact sl_tup
theorem op_notInTK (hK : X.K = K) (hu : X.A.units + 64 < cLine) : OpR X (compareOp .NotIn) (rInT K true) := by
  subst hK
  exact op_notInT hu
theorem op_eqDK (hK : X.K = K) (hu : X.A.units + 64 < cLine) : OpR X (compareOp .Eq) (rEqD K) := by
  subst hK
  exact op_eqD hu
end
end L2

set_option Elab.async false
set_option linter.all false
set_option maxRecDepth 100000
namespace M
structure O where
  p : Int
  n : Int
  g : Int
  m : Int
  deriving DecidableEq
def isOrd (q : Int) (o : O) : Bool := decide (0 ≤ o.p ∧ o.p ≤ q - 1 ∧ 0 ≤ o.g ∧ o.g ≤ q - 1 ∧ o.p ≠ o.g ∧ 0 ≤ o.n ∧ o.n ≤ 99 ∧ 1 ≤ o.m ∧ o.m ≤ 1000)
theorem isOrd_iff {q : Int} {o : O} : isOrd q o = true ↔ (0 ≤ o.p ∧ o.p ≤ q - 1 ∧ 0 ≤ o.g ∧ o.g ≤ q - 1 ∧ o.p ≠ o.g ∧ 0 ≤ o.n ∧ o.n ≤ 99 ∧ 1 ≤ o.m ∧ o.m ≤ 1000) := by
  unfold isOrd
  rw [decide_eq_true_iff]
/-- take k to place i of a list -/
def addAt (s : List Int) (i : Nat) (k : Int) : List Int := s.set i (s.getD i 0 + k)
theorem addAt_length (s : List Int) (i : Nat) (k : Int) : (addAt s i k).length = s.length := by unfold addAt; rw [List.length_set]
theorem addAt_getD (s : List Int) (i j : Nat) (k : Int) (hi : i < s.length) : (addAt s i k).getD j 0 = s.getD j 0 + (if i = j then k else 0) := by
  unfold addAt
  rw [List.getD_eq_getElem?_getD, List.getD_eq_getElem?_getD, List.getD_eq_getElem?_getD, List.getElem?_set]
  by_cases h : i = j
  · subst h
    simp [hi]
  · simp [h]
theorem ext_getD {s t : List Int} (hl : s.length = t.length) (h : ∀ j, s.getD j 0 = t.getD j 0) : s = t := by
  apply List.ext_getElem hl
  intro i h1 h2
  have := h i
  rw [List.getD_eq_getElem?_getD, List.getD_eq_getElem?_getD, List.getElem?_eq_getElem h1, List.getElem?_eq_getElem h2] at this
  exact this
def step (s : List Int) (o : O) : List Int := addAt (addAt s o.p.toNat (-o.m)) o.g.toNat o.m
theorem step_length (s : List Int) (o : O) : (step s o).length = s.length := by unfold step; rw [addAt_length, addAt_length]
theorem ord_lt {s : List Int} {o : O} (h : isOrd (s.length : Int) o = true) : o.p.toNat < s.length ∧ o.g.toNat < s.length := by
  have := isOrd_iff.mp h
  omega
end M

/-! settling: any two ways that can't go on have settled the same orders -/
namespace M
def nextN (ns : List Int) (o : O) : List Int := addAt ns o.p.toNat 1
def ableO (hs ns : List Int) (o : O) : Bool := decide (o.n = ns.getD o.p.toNat 0 ∧ o.m ≤ hs.getD o.p.toNat 0)
/-- orders of os, settled one by one -/
inductive Runs (os : List O) : List Int → List Int → List O → List Int → List Int → Prop
  | nil {hs ns} : Runs os hs ns [] hs ns
  | cons {hs ns o L hs' ns'} : o ∈ os → ableO hs ns o = true → Runs os (step hs o) (nextN ns o) L hs' ns' → Runs os hs ns (o :: L) hs' ns'
def inc (L : List O) (i : Nat) : Int := (L.map fun o => if o.g.toNat = i then o.m else 0).sum
def out (L : List O) (i : Nat) : Int := (L.map fun o => if o.p.toNat = i then o.m else 0).sum
def cnt (L : List O) (i : Nat) : Int := (L.map fun o => if o.p.toNat = i then 1 else 0).sum
theorem inc_cons (o : O) (L : List O) (i : Nat) : inc (o :: L) i = (if o.g.toNat = i then o.m else 0) + inc L i := by simp [inc]
theorem out_cons (o : O) (L : List O) (i : Nat) : out (o :: L) i = (if o.p.toNat = i then o.m else 0) + out L i := by simp [out]
theorem cnt_cons (o : O) (L : List O) (i : Nat) : cnt (o :: L) i = (if o.p.toNat = i then 1 else 0) + cnt L i := by simp [cnt]
theorem sum_perm {α : Type} (f : α → Int) {A B : List α} (h : A.Perm B) : (A.map f).sum = (B.map f).sum := by
  induction h with
  | nil => rfl
  | cons x _ ih => simp only [List.map_cons, List.sum_cons, ih]
  | swap x y l =>
    simp only [List.map_cons, List.sum_cons]
    omega
  | trans _ _ a b => exact a.trans b
theorem sum_app {α : Type} (f : α → Int) (A B : List α) : ((A ++ B).map f).sum = (A.map f).sum + (B.map f).sum := by
  induction A with
  | nil => simp
  | cons a A ih =>
    simp only [List.cons_append, List.map_cons, List.sum_cons, ih]
    omega
theorem sum_nonneg {α : Type} (f : α → Int) : ∀ {A : List α}, (∀ x ∈ A, 0 ≤ f x) → 0 ≤ (A.map f).sum
  | [], _ => Int.le_refl _
  | a :: A, h => by
    simp only [List.map_cons, List.sum_cons]
    have h1 := h a (by simp)
    have h2 := sum_nonneg f (A := A) fun x hx => h x (by simp [hx])
    omega
theorem sum_zero {α : Type} : ∀ A : List α, (A.map fun _ => (0 : Int)).sum = 0
  | [] => rfl
  | _ :: A => by
    simp only [List.map_cons, List.sum_cons, sum_zero A]
    rfl
/-- what is within the other, and the rest of it -/
theorem split_sub {α : Type} [DecidableEq α] : ∀ {A B : List α}, A.Nodup → (∀ x ∈ A, x ∈ B) → ∃ R, B.Perm (A ++ R)
  | [], B, _, _ => ⟨B, List.Perm.refl _⟩
  | a :: A, B, nd, h => by
    rw [List.nodup_cons] at nd
    have ha := h a (by simp)
    obtain ⟨R, hR⟩ := split_sub (A := A) (B := B.erase a) nd.2 fun x hx => by
      refine (List.mem_erase_of_ne fun e => ?_).mpr (h x (by simp [hx]))
      subst e
      exact nd.1 hx
    exact ⟨R, (List.perm_cons_erase ha).trans (hR.cons a)⟩
section
variable {os : List O} {q : Nat}
/-- orders of q purses, no two of one place -/
structure Places (os : List O) (q : Nat) : Prop where
  ord : ∀ o ∈ os, isOrd q o = true
  inj : ∀ o ∈ os, ∀ u ∈ os, o.p = u.p → o.n = u.n → o = u
theorem Places.rng (P : Places os q) {o : O} (h : o ∈ os) : o.p.toNat < q ∧ o.g.toNat < q ∧ o.p.toNat ≠ o.g.toNat ∧ 1 ≤ o.m ∧ 0 ≤ o.n ∧ 0 ≤ o.p := by
  have z := isOrd_iff.mp (P.ord o h)
  omega
theorem nextN_length (ns : List Int) (o : O) : (nextN ns o).length = ns.length := addAt_length ..
theorem Runs.mem {hs ns L hs' ns'} (r : Runs os hs ns L hs' ns') : ∀ o ∈ L, o ∈ os := by
  induction r with
  | nil => intro o h; cases h
  | cons h _ _ ih =>
    intro o ho
    rcases List.mem_cons.mp ho with rfl | ho
    · exact h
    · exact ih o ho
theorem Runs.state (P : Places os q) {hs ns L hs' ns'} (r : Runs os hs ns L hs' ns') (l1 : hs.length = q) (l2 : ns.length = q) :
    hs'.length = q ∧ ns'.length = q ∧ (∀ i, hs'.getD i 0 = hs.getD i 0 + inc L i - out L i) ∧ (∀ i, ns'.getD i 0 = ns.getD i 0 + cnt L i) := by
  induction r with
  | nil => exact ⟨l1, l2, fun i => by simp [inc, out], fun i => by simp [cnt]⟩
  | @cons hs ns o L hs' ns' h _ _ ih =>
    obtain ⟨b1, b2, b3, _⟩ := P.rng h
    obtain ⟨a1, a2, a3, a4⟩ := ih (by rw [step_length]; exact l1) (by rw [nextN_length]; exact l2)
    refine ⟨a1, a2, fun i => ?_, fun i => ?_⟩
    · rw [a3, inc_cons, out_cons]
      unfold step
      rw [addAt_getD _ _ _ _ (by rw [addAt_length]; omega), addAt_getD _ _ _ _ (by omega)]
      (repeat' split) <;> omega
    · rw [a4, cnt_cons]
      unfold nextN
      rw [addAt_getD _ _ _ _ (by omega)]
      omega
/-- the numbers that were settled: from the first on, without a gap -/
theorem Runs.nums (P : Places os q) {hs ns L hs' ns'} (r : Runs os hs ns L hs' ns') (l1 : hs.length = q) (l2 : ns.length = q) :
    (∀ o ∈ L, ns.getD o.p.toNat 0 ≤ o.n ∧ o.n < ns.getD o.p.toNat 0 + cnt L o.p.toNat) ∧ L.Nodup ∧
    (∀ (i : Nat) (k : Int), ns.getD i 0 ≤ k → k < ns.getD i 0 + cnt L i → ∃ o ∈ L, o.p.toNat = i ∧ o.n = k) := by
  induction r with
  | nil => exact ⟨fun o h => (by cases h), .nil, fun i k a b => by have z : cnt [] i = 0 := rfl; omega⟩
  | @cons hs ns o L hs' ns' h ha r ih =>
    obtain ⟨b1, b2, b3, _⟩ := P.rng h
    obtain ⟨a1, a2, a3⟩ := ih (by rw [step_length]; exact l1) (by rw [nextN_length]; exact l2)
    have en : ∀ i, (nextN ns o).getD i 0 = ns.getD i 0 + (if o.p.toNat = i then 1 else 0) := fun i => by
      unfold nextN
      rw [addAt_getD _ _ _ _ (by omega)]
    have hn := (of_decide_eq_true ha).1
    have c0 : ∀ i, 0 ≤ cnt L i := fun i => sum_nonneg _ fun x _ => by split <;> omega
    refine ⟨fun u hu => ?_, List.nodup_cons.mpr ⟨fun z => ?_, a2⟩, fun i k h1 h2 => ?_⟩
    · rcases List.mem_cons.mp hu with rfl | hu
      · rw [cnt_cons, if_pos rfl]
        have := c0 u.p.toNat
        omega
      · have z := a1 u hu
        rw [en] at z
        rw [cnt_cons]
        split at z
        · rename_i e
          rw [if_pos e]
          omega
        · rename_i e
          rw [if_neg e]
          omega
    · have z' := a1 o z
      rw [en, if_pos rfl] at z'
      omega
    · rw [cnt_cons] at h2
      by_cases e : o.p.toNat = i
      · rw [if_pos e] at h2
        by_cases ek : k = ns.getD i 0
        · exact ⟨o, by simp, e, by rw [hn, e, ek]⟩
        · obtain ⟨u, hu, e1, e2⟩ := a3 i k (by rw [en, if_pos e]; omega) (by rw [en, if_pos e]; omega)
          exact ⟨u, by simp [hu], e1, e2⟩
      · rw [if_neg e] at h2
        obtain ⟨u, hu, e1, e2⟩ := a3 i k (by rw [en, if_neg e]; omega) (by rw [en, if_neg e]; omega)
        exact ⟨u, by simp [hu], e1, e2⟩
/-- a way, cut in two -/
theorem Runs.cut {hs ns A o B hs' ns'} (r : Runs os hs ns (A ++ o :: B) hs' ns') : ∃ h1 n1, Runs os hs ns A h1 n1 ∧ ableO h1 n1 o = true := by
  induction A generalizing hs ns with
  | nil =>
    cases r with
    | cons _ ha _ => exact ⟨hs, ns, .nil, ha⟩
  | cons a A ih =>
    cases r with
    | cons hm ha r =>
      obtain ⟨h1, n1, r1, h2⟩ := ih r
      exact ⟨h1, n1, .cons hm ha r1, h2⟩
/-- what one way settles, every way settles that can't go on -/
theorem settled_all (P : Places os q) {b : List Int} (lb : b.length = q) {M L h1 n1 h2 n2} (rM : Runs os b (List.replicate q 0) M h1 n1) (rL : Runs os b (List.replicate q 0) L h2 n2) (stuck : ∀ o ∈ os, ableO h2 n2 o = false) : ∀ o ∈ M, o ∈ L := by
  have lz : (List.replicate q (0 : Int)).length = q := List.length_replicate
  have z0 : ∀ i, (List.replicate q (0 : Int)).getD i 0 = 0 := fun i => by
    rw [List.getD_eq_getElem?_getD, List.getElem?_replicate]
    split <;> rfl
  obtain ⟨_, _, sh, sn⟩ := rL.state P lb lz
  obtain ⟨nL, ndL, allL⟩ := rL.nums P lb lz
  have key : ∀ (c : Nat) (A B : List O), A.length = c → M = A ++ B → ∀ o ∈ A, o ∈ L := by
    intro c
    induction c with
    | zero =>
      intro A B l _ o h
      rw [List.length_eq_zero_iff.mp l] at h
      cases h
    | succ c ih =>
      intro A' B l e u hu
      rcases List.eq_nil_or_concat A' with rfl | ⟨A, o, rfl⟩
      · cases l
      rw [List.concat_eq_append] at e hu l
      have ihA := ih A (o :: B) (by rw [List.length_append, List.length_singleton] at l; omega) (by rw [e]; simp)
      rcases List.mem_append.mp hu with hu | hu
      · exact ihA u hu
      rw [List.mem_singleton.mp hu]
      have rM' := rM
      rw [e, List.append_assoc] at rM'
      obtain ⟨h3, n3, rA, ha⟩ := Runs.cut (A := A) (o := o) (B := B) rM'
      have ho : o ∈ os := rM.mem o (by rw [e]; simp)
      obtain ⟨_, _, th, tn⟩ := rA.state P lb lz
      obtain ⟨_, ndA, _⟩ := rA.nums P lb lz
      obtain ⟨a1, a2⟩ := of_decide_eq_true ha
      obtain ⟨R, hR⟩ := split_sub ndA ihA
      have c1 : cnt L o.p.toNat = cnt A o.p.toNat + cnt R o.p.toNat := (sum_perm _ hR).trans (sum_app _ _ _)
      have c2 : inc L o.p.toNat = inc A o.p.toNat + inc R o.p.toNat := (sum_perm _ hR).trans (sum_app _ _ _)
      have c3 : out L o.p.toNat = out A o.p.toNat + out R o.p.toNat := (sum_perm _ hR).trans (sum_app _ _ _)
      have mR : ∀ x ∈ R, x ∈ os := fun x hx => rL.mem x (hR.mem_iff.mpr (by simp [hx]))
      have r0 : 0 ≤ cnt R o.p.toNat := sum_nonneg _ fun x _ => by split <;> omega
      rw [tn, z0] at a1
      rw [th] at a2
      by_cases hc : o.n < cnt L o.p.toNat
      · have z := P.rng ho
        obtain ⟨v, hv, e1, e2⟩ := allL o.p.toNat o.n (by rw [z0]; omega) (by rw [z0]; omega)
        have zv := P.rng (rL.mem v hv)
        have : v = o := P.inj v (rL.mem v hv) o ho (by omega) e2
        rw [← this]
        exact hv
      · exfalso
        have r1 : cnt R o.p.toNat = 0 := by omega
        have np : ∀ x ∈ R, x.p.toNat ≠ o.p.toNat := fun x hx e => by
          obtain ⟨R1, R2, rfl⟩ := List.append_of_mem hx
          have : cnt (R1 ++ x :: R2) o.p.toNat = cnt R1 o.p.toNat + cnt (x :: R2) o.p.toNat := sum_app _ _ _
          rw [cnt_cons, if_pos e] at this
          have p1 : 0 ≤ cnt R1 o.p.toNat := sum_nonneg _ fun x _ => by split <;> omega
          have p2 : 0 ≤ cnt R2 o.p.toNat := sum_nonneg _ fun x _ => by split <;> omega
          omega
        have r2 : out R o.p.toNat = 0 := by
          unfold out
          rw [List.map_congr_left (g := fun _ => (0 : Int)) fun x hx => if_neg (np x hx)]
          exact sum_zero R
        have r3 : 0 ≤ inc R o.p.toNat := sum_nonneg _ fun x hx => by
          have := P.rng (mR x hx)
          split <;> omega
        have hs := stuck o ho
        have : ableO h2 n2 o = true := decide_eq_true ⟨by rw [sn, z0]; omega, by rw [sh]; omega⟩
        rw [hs] at this
        cases this
  intro o ho
  exact key _ M [] rfl (by simp) o ho
/-- two ways that can't go on have settled the same, and left the same sums -/
theorem settled_same (P : Places os q) {b : List Int} (lb : b.length = q) {M L h1 n1 h2 n2} (rM : Runs os b (List.replicate q 0) M h1 n1) (sM : ∀ o ∈ os, ableO h1 n1 o = false) (rL : Runs os b (List.replicate q 0) L h2 n2) (sL : ∀ o ∈ os, ableO h2 n2 o = false) : M.Perm L ∧ h1 = h2 ∧ n1 = n2 := by
  have lz : (List.replicate q (0 : Int)).length = q := List.length_replicate
  obtain ⟨x1, x2, sh, sn⟩ := rL.state P lb lz
  obtain ⟨y1, y2, th, tn⟩ := rM.state P lb lz
  obtain ⟨_, ndL, _⟩ := rL.nums P lb lz
  obtain ⟨_, ndM, _⟩ := rM.nums P lb lz
  have p : M.Perm L := (List.perm_ext_iff_of_nodup ndM ndL).mpr fun o => ⟨settled_all P lb rM rL sL o, settled_all P lb rL rM sM o⟩
  have e1 : ∀ i, inc M i = inc L i := fun i => sum_perm _ p
  have e2 : ∀ i, out M i = out L i := fun i => sum_perm _ p
  have e3 : ∀ i, cnt M i = cnt L i := fun i => sum_perm _ p
  exact ⟨p, ext_getD (by omega) fun i => by rw [sh, th, e1, e2], ext_getD (by omega) fun i => by rw [sn, tn, e3]⟩
end
end M

namespace M
open PySem L2
theorem pa_2 {X : Cx} {e0 e1 : Expr} {t0 t1 : TE} (h0 : PE X e0 t0) (h1 : PE X e1 t1) (s0 : isStar e0 = false := by rfl) (s1 : isStar e1 = false := by rfl) : PA X [e0, e1] (tCons t0 (tCons t1 tNil)) := by
  refine pa_more h0 ?_ s0
  refine pa_more h1 ?_ s1
  exact pa_nil
theorem pa_3 {X : Cx} {e0 e1 e2 : Expr} {t0 t1 t2 : TE} (h0 : PE X e0 t0) (h1 : PE X e1 t1) (h2 : PE X e2 t2) (s0 : isStar e0 = false := by rfl) (s1 : isStar e1 = false := by rfl) (s2 : isStar e2 = false := by rfl) : PA X [e0, e1, e2] (tCons t0 (tCons t1 (tCons t2 tNil))) := by
  refine pa_more h0 ?_ s0
  refine pa_more h1 ?_ s1
  refine pa_more h2 ?_ s2
  exact pa_nil
theorem pa_4 {X : Cx} {e0 e1 e2 e3 : Expr} {t0 t1 t2 t3 : TE} (h0 : PE X e0 t0) (h1 : PE X e1 t1) (h2 : PE X e2 t2) (h3 : PE X e3 t3) (s0 : isStar e0 = false := by rfl) (s1 : isStar e1 = false := by rfl) (s2 : isStar e2 = false := by rfl) (s3 : isStar e3 = false := by rfl) : PA X [e0, e1, e2, e3] (tCons t0 (tCons t1 (tCons t2 (tCons t3 tNil)))) := by
  refine pa_more h0 ?_ s0
  refine pa_more h1 ?_ s1
  refine pa_more h2 ?_ s2
  refine pa_more h3 ?_ s3
  exact pa_nil
def top (i : Nat) : Stmt := PySem.Challenge.pw_manypurses_k19_whole_audits.main.body.getD i (.Pass ⟨0, 0, 0, 0⟩)
abbrev s_is_whole : Stmt := top 7
abbrev s_is_between : Stmt := top 8
abbrev s_is_order : Stmt := top 13
abbrev s_are_orders : Stmt := top 14
abbrev s_place_of : Stmt := top 15
abbrev s_are_sums : Stmt := top 19
abbrev s_are_first_sums : Stmt := top 20
abbrev s_by_place : Stmt := top 22
abbrev s_check_orders : Stmt := top 23
abbrev s_Book___init__ : Stmt := inClass (top 1) 0
abbrev s_Book_is_past : Stmt := inClass (top 1) 1
abbrev s_Book_is_due : Stmt := inClass (top 1) 2
abbrev s_Book_settle : Stmt := inClass (top 1) 3
abbrev s_due_orders : Stmt := top 24
abbrev s_book_of : Stmt := top 25
abbrev s_left_in : Stmt := top 26
abbrev s_row_for : Stmt := top 27
abbrev s_left_over : Stmt := top 28
abbrev s_is_row : Stmt := top 29
abbrev s_lack_of : Stmt := top 30
abbrev s_wanting : Stmt := top 31
abbrev s__law_town : Stmt := top 33
abbrev s__law_draw : Stmt := top 34
abbrev s__law_pick : Stmt := top 35
abbrev s__law_fits : Stmt := top 36
abbrev s__law_able : Stmt := top 37
abbrev s__law_settle : Stmt := top 38
abbrev s_law : Stmt := top 39
theorem sc_is_whole : FnScope ["thing"] ["thing"] (defScope s_is_whole) := ⟨rfl, rfl, rfl, by decide +kernel, rfl, by decide +kernel, by decide +kernel⟩
theorem sc_is_between : FnScope ["thing", "low", "high"] ["thing", "low", "high"] (defScope s_is_between) := ⟨rfl, rfl, rfl, by decide +kernel, rfl, by decide +kernel, by decide +kernel⟩
theorem sc_is_order : FnScope ["thing", "purses", "purse", "number", "goal", "much"] ["thing", "purses"] (defScope s_is_order) := ⟨rfl, rfl, rfl, by decide +kernel, rfl, by decide +kernel, by decide +kernel⟩
theorem sc_are_orders : FnScope ["things", "purses"] ["things", "purses"] (defScope s_are_orders) := ⟨rfl, rfl, rfl, by decide +kernel, rfl, by decide +kernel, by decide +kernel⟩
theorem sc_place_of : FnScope ["order"] ["order"] (defScope s_place_of) := ⟨rfl, rfl, rfl, by decide +kernel, rfl, by decide +kernel, by decide +kernel⟩
theorem sc_are_sums : FnScope ["thing"] ["thing"] (defScope s_are_sums) := ⟨rfl, rfl, rfl, by decide +kernel, rfl, by decide +kernel, by decide +kernel⟩
theorem sc_are_first_sums : FnScope ["thing"] ["thing"] (defScope s_are_first_sums) := ⟨rfl, rfl, rfl, by decide +kernel, rfl, by decide +kernel, by decide +kernel⟩
theorem sc_by_place : FnScope ["orders"] ["orders"] (defScope s_by_place) := ⟨rfl, rfl, rfl, by decide +kernel, rfl, by decide +kernel, by decide +kernel⟩
theorem sc_check_orders : FnScope ["orders", "sums"] ["orders", "sums"] (defScope s_check_orders) := ⟨rfl, rfl, rfl, by decide +kernel, rfl, by decide +kernel, by decide +kernel⟩
theorem sc_Book___init__ : FnScope ["self", "sums"] ["self", "sums"] (defScope s_Book___init__) := ⟨rfl, rfl, rfl, by decide +kernel, rfl, by decide +kernel, by decide +kernel⟩
theorem sc_Book_is_past : FnScope ["self", "order"] ["self", "order"] (defScope s_Book_is_past) := ⟨rfl, rfl, rfl, by decide +kernel, rfl, by decide +kernel, by decide +kernel⟩
theorem sc_Book_is_due : FnScope ["self", "order", "purse", "number", "goal", "much"] ["self", "order"] (defScope s_Book_is_due) := ⟨rfl, rfl, rfl, by decide +kernel, rfl, by decide +kernel, by decide +kernel⟩
theorem sc_Book_settle : FnScope ["self", "order", "purse", "number", "goal", "much"] ["self", "order"] (defScope s_Book_settle) := ⟨rfl, rfl, rfl, by decide +kernel, rfl, by decide +kernel, by decide +kernel⟩
theorem sc_due_orders : FnScope ["places", "book", "orders"] ["places", "book"] (defScope s_due_orders) := ⟨rfl, rfl, rfl, by decide +kernel, rfl, by decide +kernel, by decide +kernel⟩
theorem sc_book_of : FnScope ["orders", "sums", "places", "book", "due"] ["orders", "sums"] (defScope s_book_of) := ⟨rfl, rfl, rfl, by decide +kernel, rfl, by decide +kernel, by decide +kernel⟩
theorem sc_left_in : FnScope ["book", "orders"] ["book", "orders"] (defScope s_left_in) := ⟨rfl, rfl, rfl, by decide +kernel, rfl, by decide +kernel, by decide +kernel⟩
theorem sc_row_for : FnScope ["orders", "sums"] ["orders", "sums"] (defScope s_row_for) := ⟨rfl, rfl, rfl, by decide +kernel, rfl, by decide +kernel, by decide +kernel⟩
theorem sc_left_over : FnScope ["orders", "sums"] ["orders", "sums"] (defScope s_left_over) := ⟨rfl, rfl, rfl, by decide +kernel, rfl, by decide +kernel, by decide +kernel⟩
theorem sc_is_row : FnScope ["orders", "sums", "book", "order"] ["orders", "sums"] (defScope s_is_row) := ⟨rfl, rfl, rfl, by decide +kernel, rfl, by decide +kernel, by decide +kernel⟩
theorem sc_lack_of : FnScope ["purse", "places", "book", "order"] ["purse", "places", "book"] (defScope s_lack_of) := ⟨rfl, rfl, rfl, by decide +kernel, rfl, by decide +kernel, by decide +kernel⟩
theorem sc_wanting : FnScope ["orders", "sums", "book", "places"] ["orders", "sums"] (defScope s_wanting) := ⟨rfl, rfl, rfl, by decide +kernel, rfl, by decide +kernel, by decide +kernel⟩
theorem sc__law_town : FnScope ["_law_script"] ["_law_script"] (defScope s__law_town) := ⟨rfl, rfl, rfl, by decide +kernel, rfl, by decide +kernel, by decide +kernel⟩
theorem sc__law_draw : FnScope ["_law_town_here", "_law_many", "_law_row", "_law_at", "_law_cell", "_law_mixed"] ["_law_town_here", "_law_many"] (defScope s__law_draw) := ⟨rfl, rfl, rfl, by decide +kernel, rfl, by decide +kernel, by decide +kernel⟩
theorem sc__law_pick : FnScope ["_law_town_here", "_law_some"] ["_law_town_here", "_law_some"] (defScope s__law_pick) := ⟨rfl, rfl, rfl, by decide +kernel, rfl, by decide +kernel, by decide +kernel⟩
theorem sc__law_fits : FnScope ["_law_orders", "_law_begin", "_law_worth", "_law_nexts", "_law_purse", "_law_number", "_law_goal", "_law_much"] ["_law_orders", "_law_begin"] (defScope s__law_fits) := ⟨rfl, rfl, rfl, by decide +kernel, rfl, by decide +kernel, by decide +kernel⟩
theorem sc__law_able : FnScope ["_law_orders", "_law_worth", "_law_nexts"] ["_law_orders", "_law_worth", "_law_nexts"] (defScope s__law_able) := ⟨rfl, rfl, rfl, by decide +kernel, rfl, by decide +kernel, by decide +kernel⟩
theorem sc__law_settle : FnScope ["_law_town_here", "_law_orders", "_law_begin", "_law_least", "_law_worth", "_law_nexts", "_law_found", "_law_able_here", "_law_one"] ["_law_town_here", "_law_orders", "_law_begin", "_law_least"] (defScope s__law_settle) := ⟨rfl, rfl, rfl, by decide +kernel, rfl, by decide +kernel, by decide +kernel⟩
theorem sc_law : FnScope ["_law_script", "_law_town_here", "_law_begin", "_law_orders", "_law_turn", "_law_purse", "_law_number", "_law_goal", "_law_kept", "_law_row", "_law_worth", "_law_nexts", "_law_told", "_law_other", "_law_worth_two", "_law_nexts_two", "_law_left", "_law_due", "_law_asked", "_law_turned"] ["_law_script"] (defScope s_law) := ⟨rfl, rfl, rfl, by decide +kernel, rfl, by decide +kernel, by decide +kernel⟩
theorem nd_0 : (["each"] : List Str).Nodup := by decide +kernel
theorem nd_1 : (["thing", "purses"] : List Str).Nodup := by decide +kernel
theorem nd_2 : (["order"] : List Str).Nodup := by decide +kernel
theorem nd_3 : (["order", "book"] : List Str).Nodup := by decide +kernel
theorem nd_4 : (["purse", "number", "places"] : List Str).Nodup := by decide +kernel
theorem nd_5 : (["order", "book"] : List Str).Nodup := by decide +kernel
theorem nd_6 : (["purse", "number", "places", "book"] : List Str).Nodup := by decide +kernel
theorem nd_7 : (["_law_one", "_law_nexts", "_law_worth"] : List Str).Nodup := by decide +kernel
theorem nd_8 : (["_law_one"] : List Str).Nodup := by decide +kernel
theorem nd_9 : (["_law_one", "_law_purse", "_law_nexts"] : List Str).Nodup := by decide +kernel
theorem nd_10 : (["_law_one", "_law_row"] : List Str).Nodup := by decide +kernel
theorem nd_11 : (["_law_one", "_law_purse", "_law_number"] : List Str).Nodup := by decide +kernel
theorem nd_12 : (["_law_one", "_law_purse"] : List Str).Nodup := by decide +kernel
theorem nd_13 : (["_law_k", "_law_town_here"] : List Str).Nodup := by decide +kernel
theorem boot_isinstance : bootBuiltins "isinstance" = some (.builtin "isinstance") := by decide +kernel
theorem boot_bool : bootBuiltins "bool" = some (.type "bool") := by decide +kernel
theorem boot_int : bootBuiltins "int" = some (.type "int") := by decide +kernel
theorem boot_len : bootBuiltins "len" = some (.builtin "len") := by decide +kernel
theorem boot_tuple : bootBuiltins "tuple" = some (.type "tuple") := by decide +kernel
theorem boot_list : bootBuiltins "list" = some (.type "list") := by decide +kernel
theorem boot_all : bootBuiltins "all" = some (.builtin "all") := by decide +kernel
theorem boot_min : bootBuiltins "min" = some (.builtin "min") := by decide +kernel
theorem boot_sorted : bootBuiltins "sorted" = some (.builtin "sorted") := by decide +kernel
theorem boot_set : bootBuiltins "set" = some (.type "set") := by decide +kernel
theorem boot_range : bootBuiltins "range" = some (.type "range") := by decide +kernel
structure Ad where
  f_is_whole : Addr
  d_is_whole : FuncData
  f_is_between : Addr
  d_is_between : FuncData
  f_is_order : Addr
  d_is_order : FuncData
  f_are_orders : Addr
  d_are_orders : FuncData
  f_place_of : Addr
  d_place_of : FuncData
  f_are_sums : Addr
  d_are_sums : FuncData
  f_are_first_sums : Addr
  d_are_first_sums : FuncData
  f_by_place : Addr
  d_by_place : FuncData
  f_check_orders : Addr
  d_check_orders : FuncData
  f_Book___init__ : Addr
  d_Book___init__ : FuncData
  f_Book_is_past : Addr
  d_Book_is_past : FuncData
  f_Book_is_due : Addr
  d_Book_is_due : FuncData
  f_Book_settle : Addr
  d_Book_settle : FuncData
  f_due_orders : Addr
  d_due_orders : FuncData
  f_book_of : Addr
  d_book_of : FuncData
  f_left_in : Addr
  d_left_in : FuncData
  f_row_for : Addr
  d_row_for : FuncData
  f_left_over : Addr
  d_left_over : FuncData
  f_is_row : Addr
  d_is_row : FuncData
  f_lack_of : Addr
  d_lack_of : FuncData
  f_wanting : Addr
  d_wanting : FuncData
  f__law_town : Addr
  d__law_town : FuncData
  f__law_draw : Addr
  d__law_draw : FuncData
  f__law_pick : Addr
  d__law_pick : FuncData
  f__law_fits : Addr
  d__law_fits : FuncData
  f__law_able : Addr
  d__law_able : FuncData
  f__law_settle : Addr
  d__law_settle : FuncData
  f_law : Addr
  d_law : FuncData
  a_Book : Addr
  a_BadOrder : Addr
  a_BadHouses : Addr
  a_PurseError : Addr
def asked (t : Ad) : List Value := [.type "BadNumber", .ref t.a_BadOrder, .ref t.a_BadHouses, .type "NoHouse", .type "NoPurse", .type "NoLetter", .type "NotNow", .type "TooMuch", .type "BadPaper", .type "BadCut", .type "BadText", .ref t.a_PurseError, .type "ValueError"]
structure Txt (K : PySem.W.Frag) (mg : Str → Option Value) (t : Ad) : Prop where
  F_is_whole : Fun K "is_whole" "is_whole" s_is_whole t.f_is_whole t.d_is_whole
  m_is_whole : mg "is_whole" = some (.ref t.f_is_whole)
  b_is_whole : Binds K t.d_is_whole ["thing"] []
  F_is_between : Fun K "is_between" "is_between" s_is_between t.f_is_between t.d_is_between
  m_is_between : mg "is_between" = some (.ref t.f_is_between)
  b_is_between : Binds K t.d_is_between ["thing", "low", "high"] []
  F_is_order : Fun K "is_order" "is_order" s_is_order t.f_is_order t.d_is_order
  m_is_order : mg "is_order" = some (.ref t.f_is_order)
  bk0_is_order : KBinds K t.d_is_order ["thing", "purses"] ["purses"] kb11 kb11
  bd0_is_order : ∃ tk, Binds K t.d_is_order ["thing", "purses"] [.int 8 tk]
  F_are_orders : Fun K "are_orders" "are_orders" s_are_orders t.f_are_orders t.d_are_orders
  m_are_orders : mg "are_orders" = some (.ref t.f_are_orders)
  bk0_are_orders : KBinds K t.d_are_orders ["things", "purses"] ["purses"] kb11 kb11
  F_place_of : Fun K "place_of" "place_of" s_place_of t.f_place_of t.d_place_of
  m_place_of : mg "place_of" = some (.ref t.f_place_of)
  b_place_of : Binds K t.d_place_of ["order"] []
  F_are_sums : Fun K "are_sums" "are_sums" s_are_sums t.f_are_sums t.d_are_sums
  m_are_sums : mg "are_sums" = some (.ref t.f_are_sums)
  b_are_sums : Binds K t.d_are_sums ["thing"] []
  F_are_first_sums : Fun K "are_first_sums" "are_first_sums" s_are_first_sums t.f_are_first_sums t.d_are_first_sums
  m_are_first_sums : mg "are_first_sums" = some (.ref t.f_are_first_sums)
  b_are_first_sums : Binds K t.d_are_first_sums ["thing"] []
  F_by_place : Fun K "by_place" "by_place" s_by_place t.f_by_place t.d_by_place
  m_by_place : mg "by_place" = some (.ref t.f_by_place)
  b_by_place : Binds K t.d_by_place ["orders"] []
  F_check_orders : Fun K "check_orders" "check_orders" s_check_orders t.f_check_orders t.d_check_orders
  m_check_orders : mg "check_orders" = some (.ref t.f_check_orders)
  bk0_check_orders : KBinds K t.d_check_orders ["orders", "sums"] ["sums"] kb11 kb11
  F_Book___init__ : Fun K "__init__" "Book.__init__" s_Book___init__ t.f_Book___init__ t.d_Book___init__
  mt_Book___init__ : Meth K t.a_Book "__init__" t.f_Book___init__
  mk_Book : Mk K t.a_Book t.f_Book___init__
  b_Book___init__ : Binds K t.d_Book___init__ ["self", "sums"] []
  F_Book_is_past : Fun K "is_past" "Book.is_past" s_Book_is_past t.f_Book_is_past t.d_Book_is_past
  mt_Book_is_past : Meth K t.a_Book "is_past" t.f_Book_is_past
  b_Book_is_past : Binds K t.d_Book_is_past ["self", "order"] []
  F_Book_is_due : Fun K "is_due" "Book.is_due" s_Book_is_due t.f_Book_is_due t.d_Book_is_due
  mt_Book_is_due : Meth K t.a_Book "is_due" t.f_Book_is_due
  b_Book_is_due : Binds K t.d_Book_is_due ["self", "order"] []
  F_Book_settle : Fun K "settle" "Book.settle" s_Book_settle t.f_Book_settle t.d_Book_settle
  mt_Book_settle : Meth K t.a_Book "settle" t.f_Book_settle
  b_Book_settle : Binds K t.d_Book_settle ["self", "order"] []
  F_due_orders : Fun K "due_orders" "due_orders" s_due_orders t.f_due_orders t.d_due_orders
  m_due_orders : mg "due_orders" = some (.ref t.f_due_orders)
  b_due_orders : Binds K t.d_due_orders ["places", "book"] []
  F_book_of : Fun K "book_of" "book_of" s_book_of t.f_book_of t.d_book_of
  m_book_of : mg "book_of" = some (.ref t.f_book_of)
  bk0_book_of : KBinds K t.d_book_of ["orders", "sums"] ["sums"] kb11 kb11
  F_left_in : Fun K "left_in" "left_in" s_left_in t.f_left_in t.d_left_in
  m_left_in : mg "left_in" = some (.ref t.f_left_in)
  b_left_in : Binds K t.d_left_in ["book", "orders"] []
  F_row_for : Fun K "row_for" "row_for" s_row_for t.f_row_for t.d_row_for
  m_row_for : mg "row_for" = some (.ref t.f_row_for)
  bk0_row_for : KBinds K t.d_row_for ["orders", "sums"] ["sums"] kb11 kb11
  F_left_over : Fun K "left_over" "left_over" s_left_over t.f_left_over t.d_left_over
  m_left_over : mg "left_over" = some (.ref t.f_left_over)
  bk0_left_over : KBinds K t.d_left_over ["orders", "sums"] ["sums"] kb11 kb11
  F_is_row : Fun K "is_row" "is_row" s_is_row t.f_is_row t.d_is_row
  m_is_row : mg "is_row" = some (.ref t.f_is_row)
  bk0_is_row : KBinds K t.d_is_row ["orders", "sums"] ["sums"] kb11 kb11
  F_lack_of : Fun K "lack_of" "lack_of" s_lack_of t.f_lack_of t.d_lack_of
  m_lack_of : mg "lack_of" = some (.ref t.f_lack_of)
  b_lack_of : Binds K t.d_lack_of ["purse", "places", "book"] []
  F_wanting : Fun K "wanting" "wanting" s_wanting t.f_wanting t.d_wanting
  m_wanting : mg "wanting" = some (.ref t.f_wanting)
  bk0_wanting : KBinds K t.d_wanting ["orders", "sums"] ["sums"] kb11 kb11
  F__law_town : Fun K "_law_town" "_law_town" s__law_town t.f__law_town t.d__law_town
  m__law_town : mg "_law_town" = some (.ref t.f__law_town)
  b__law_town : Binds K t.d__law_town ["_law_script"] []
  F__law_draw : Fun K "_law_draw" "_law_draw" s__law_draw t.f__law_draw t.d__law_draw
  m__law_draw : mg "_law_draw" = some (.ref t.f__law_draw)
  b__law_draw : Binds K t.d__law_draw ["_law_town_here", "_law_many"] []
  F__law_pick : Fun K "_law_pick" "_law_pick" s__law_pick t.f__law_pick t.d__law_pick
  m__law_pick : mg "_law_pick" = some (.ref t.f__law_pick)
  b__law_pick : Binds K t.d__law_pick ["_law_town_here", "_law_some"] []
  F__law_fits : Fun K "_law_fits" "_law_fits" s__law_fits t.f__law_fits t.d__law_fits
  m__law_fits : mg "_law_fits" = some (.ref t.f__law_fits)
  b__law_fits : Binds K t.d__law_fits ["_law_orders", "_law_begin"] []
  F__law_able : Fun K "_law_able" "_law_able" s__law_able t.f__law_able t.d__law_able
  m__law_able : mg "_law_able" = some (.ref t.f__law_able)
  b__law_able : Binds K t.d__law_able ["_law_orders", "_law_worth", "_law_nexts"] []
  F__law_settle : Fun K "_law_settle" "_law_settle" s__law_settle t.f__law_settle t.d__law_settle
  m__law_settle : mg "_law_settle" = some (.ref t.f__law_settle)
  b__law_settle : Binds K t.d__law_settle ["_law_town_here", "_law_orders", "_law_begin", "_law_least"] []
  F_law : Fun K "law" "law" s_law t.f_law t.d_law
  m_law : mg "law" = some (.ref t.f_law)
  b_law : Binds K t.d_law ["_law_script"] []
  c_MOST_MUCH : ∃ tk, mg "MOST_MUCH" = some (.int 1000 tk)
  c_LAST_NUMBER : ∃ tk, mg "LAST_NUMBER" = some (.int 99 tk)
  c_MOST_FIRST_SUM : ∃ tk, mg "MOST_FIRST_SUM" = some (.int 1000 tk)
  c_LEAST_PURSES : ∃ tk, mg "LEAST_PURSES" = some (.int 2 tk)
  c_MOST_PURSES : ∃ tk, mg "MOST_PURSES" = some (.int 8 tk)
  m_Book : mg "Book" = some (.ref t.a_Book)
  cl_Book : Cls K t.a_Book
  na_Book_held : NoAttr K t.a_Book "held"
  na_Book_next_numbers : NoAttr K t.a_Book "next_numbers"
  na_Book_done : NoAttr K t.a_Book "done"
  m_BadOrder : mg "BadOrder" = some (.ref t.a_BadOrder)
  m_BadHouses : mg "BadHouses" = some (.ref t.a_BadHouses)
  m_PurseError : mg "PurseError" = some (.ref t.a_PurseError)
  x_BadOrder : XCls K t.a_BadOrder
  xi_BadOrder : XIs K t.a_BadOrder
  xk_BadOrder : kinds K (.ref t.a_BadOrder) (asked t) = [some false, some true, some false, some false, some false, some false, some false, some false, some false, some false, some false, some true, some true]
  x_BadHouses : XCls K t.a_BadHouses
  xi_BadHouses : XIs K t.a_BadHouses
  xk_BadHouses : kinds K (.ref t.a_BadHouses) (asked t) = [some false, some false, some true, some false, some false, some false, some false, some false, some false, some false, some false, some true, some true]
  n_isinstance : mg "isinstance" = none
  n_bool : mg "bool" = none
  n_int : mg "int" = none
  n_len : mg "len" = none
  n_tuple : mg "tuple" = none
  n_list : mg "list" = none
  n_all : mg "all" = none
  n_enumerate : mg "enumerate" = none
  n_min : mg "min" = none
  n_sorted : mg "sorted" = none
  n_set : mg "set" = none
  n_range : mg "range" = none
/-! ### the data -/
def ordV (o : O) : List V := [.int o.p, .int o.n, .int o.g, .int o.m]
def OrdAt (H : Hp) (x : V) (o : O) : Prop := ∃ a, x = .ref a ∧ H a = some (.tup (ordV o))
abbrev OrdsAt (H : Hp) (xs : List V) (os : List O) : Prop := Paired (OrdAt H) xs os
theorem ords_get {F : V → O → Prop} : ∀ {xs : List V} {os : List O} {i : Nat} {x : V}, Paired F xs os → xs[i]? = some x → ∃ o, os[i]? = some o ∧ F x o
  | _, _, i, x, .nil, e => by simp at e
  | _, _, 0, x, .cons h _, e => by
    have e' := Option.some.inj e
    subst e'
    exact ⟨_, rfl, h⟩
  | _, _, i + 1, x, .cons _ t, e => ords_get (i := i) t e
theorem OrdAt.same {H H' : Hp} {x : V} {o : O} (s : Same H H') (h : OrdAt H x o) : OrdAt H' x o := by
  obtain ⟨a, e, q⟩ := h
  exact ⟨a, e, s _ _ q⟩
theorem ords_same {H H' : Hp} {xs : List V} {os : List O} (s : Same H H') (h : OrdsAt H xs os) : OrdsAt H' xs os := Paired.mapP h fun _ _ => OrdAt.same s
theorem same_upd {H : Hp} {p : Addr} {o : HO} (h : H p = none) : Same H (upd H p o) := fun b u e => by rw [upd_ne (ne_of_none e h)]; exact e
theorem nd {c : Prop} [Decidable c] (h : (!decide c) = true) : ¬ c := fun z => by rw [decide_eq_true z] at h; cases h
theorem take_snoc {α : Type} {l : List α} {i : Nat} {x : α} (h : l[i]? = some x) : l.take (i + 1) = l.take i ++ [x] := by rw [List.take_add_one, h]; rfl
theorem set_map (s : List Int) (i : Nat) (z : Int) : (s.map V.int).set i (.int z) = (s.set i z).map V.int := by rw [List.map_set]
theorem get_map {s : List Int} {i : Nat} (h : i < s.length) : (s.map V.int)[i]? = some (.int (s.getD i 0)) := by
  rw [List.getElem?_map, List.getElem?_eq_getElem h, List.getD_eq_getElem?_getD, List.getElem?_eq_getElem h]
  rfl
theorem ixN_of {n : Nat} {i : Int} (h0 : 0 ≤ i) (h1 : i.toNat < n) : ixN n i = some i.toNat := by
  unfold ixN
  rw [if_pos h0, if_pos (by omega)]
theorem atI_of {α : Type} {xs : List α} {i : Int} {v : α} (h0 : 0 ≤ i) (h : xs[i.toNat]? = some v) : atI xs i = some v := by
  unfold atI
  rw [ixN_of h0 (List.getElem?_eq_some_iff.mp h).1]
  exact h
theorem tYes_intro {i : Nat} {x : V} {σ : St} {H : Hp} {F G : St → Hp → Prop} (h : F (σ.set i (some x)) H) : gName i x σ H fun σ2 H2 => tYes σ2 H2 fun b H3 => if b = true then F σ2 H3 else G σ2 H3 := iteT (A := F (σ.set i (some x)) H) (B := G (σ.set i (some x)) H) h
theorem len1000 {n : Nat} (h : n ≤ 1000) : n ≤ sizeLine := Nat.le_of_lt (small1000 h)
/-- the row of draws: the list at T holds the list at R and a count -/
def Town (T R : Addr) (H : Hp) : Prop := ∃ (row : List Int) (c : Int), H T = some (.lst [.ref R, .int c]) ∧ H R = some (.lst (row.map V.int)) ∧ 0 < row.length
/-- nothing but the row of draws has changed -/
def KeepT (T R : Addr) (H H' : Hp) : Prop := ∀ b o, H b = some o → b ≠ T → b ≠ R → H' b = some o
theorem Town.ne {T R : Addr} {H : Hp} (h : Town T R H) : T ≠ R := by
  obtain ⟨row, c, h1, h2, h3⟩ := h
  refine ne_of h1 h2 fun e => ?_
  have e' := HO.lst.inj e
  cases row with
  | nil => cases h3
  | cons x r => rw [List.map_cons] at e'; cases (List.cons.inj e').1
theorem Town.same {T R : Addr} {H H' : Hp} (h : Town T R H) (s : Same H H') : Town T R H' := by
  obtain ⟨row, c, h1, h2, h3⟩ := h
  exact ⟨row, c, s _ _ h1, s _ _ h2, h3⟩
theorem Town.neT {T R b : Addr} {H : Hp} (h : Town T R H) {xs : List V} (hb : H b = some (.tup xs)) : b ≠ T ∧ b ≠ R := by
  obtain ⟨row, c, h1, h2, h3⟩ := h
  exact ⟨ne_of hb h1 (by intro z; cases z), ne_of hb h2 (by intro z; cases z)⟩
theorem Town.fresh {T R b : Addr} {H : Hp} (h : Town T R H) (hb : H b = none) : b ≠ T ∧ b ≠ R := by
  obtain ⟨row, c, h1, h2, h3⟩ := h
  exact ⟨(ne_of_none h1 hb).symm, (ne_of_none h2 hb).symm⟩
theorem KeepT.trans {T R : Addr} {H H1 H2 : Hp} (a : KeepT T R H H1) (b : KeepT T R H1 H2) : KeepT T R H H2 := fun c o e h1 h2 => b c o (a c o e h1 h2) h1 h2
theorem KeepT.of {T R : Addr} {H H' : Hp} (s : Same H H') : KeepT T R H H' := fun b o e _ _ => s b o e
/-! ### things of any kind -/
def simple : V → Bool
  | .non => true
  | .bl _ => true
  | .int _ => true
  | .str _ => true
  | _ => false
def Thing (H : Hp) (x : V) : Prop := simple x = true ∨ ∃ a xs, x = .ref a ∧ (H a = some (.lst xs) ∨ H a = some (.tup xs))
def isI : V → Bool
  | .int _ => true
  | _ => false
def isB (x : V) (l h : Int) : Bool := match x with
  | .int i => decide (l ≤ i ∧ i ≤ h)
  | _ => false
def isOV (q : Int) (xs : List V) : Bool := match xs with
  | [p, n, g, m] => isB p 0 (q - 1) && isB g 0 (q - 1) && !decide (p = g) && isB n 0 99 && isB m 1 1000
  | _ => false
theorem isB_int {x : V} {l h : Int} (e : isB x l h = true) : ∃ i, x = .int i ∧ l ≤ i ∧ i ≤ h := by
  cases x with
  | int i => exact ⟨i, rfl, of_decide_eq_true e⟩
  | _ => cases e
theorem isOV_ord {q : Int} {xs : List V} (h : isOV q xs = true) : ∃ o : O, xs = ordV o ∧ isOrd q o = true := by
  unfold isOV at h
  split at h
  · rename_i p n g m
    simp only [Bool.and_eq_true] at h
    obtain ⟨⟨⟨⟨h1, h2⟩, h3⟩, h4⟩, h5⟩ := h
    obtain ⟨i, rfl, a1, a2⟩ := isB_int h1
    obtain ⟨j, rfl, b1, b2⟩ := isB_int h2
    obtain ⟨k, rfl, c1, c2⟩ := isB_int h4
    obtain ⟨l, rfl, d1, d2⟩ := isB_int h5
    refine ⟨⟨i, k, j, l⟩, rfl, isOrd_iff.mpr ⟨a1, a2, b1, b2, ?_, c1, c2, d1, d2⟩⟩
    intro z
    have z' : i = j := z
    subst z'
    simp at h3
  · cases h
/-- x is an order of q purses (b), or something else of any kind -/
def OrdIs (H : Hp) (q : Int) (x : V) (b : Bool) : Prop := (simple x = true ∧ b = false) ∨ (∃ a xs, x = .ref a ∧ H a = some (.lst xs) ∧ b = false) ∨ (∃ a xs, x = .ref a ∧ H a = some (.tup xs) ∧ (∀ y ∈ xs, Thing H y) ∧ b = isOV q xs)
theorem OrdIs.same {H H' : Hp} {q : Int} {x : V} {b : Bool} (s : Same H H') (h : OrdIs H q x b) : OrdIs H' q x b := by
  rcases h with h | ⟨a, xs, e, h, z⟩ | ⟨a, xs, e, h, k, z⟩
  · exact .inl h
  · exact .inr (.inl ⟨a, xs, e, s _ _ h, z⟩)
  · refine .inr (.inr ⟨a, xs, e, s _ _ h, fun y hy => ?_, z⟩)
    rcases k y hy with q | ⟨b, ys, e, q | q⟩
    · exact .inl q
    · exact .inr ⟨b, ys, e, .inl (s _ _ q)⟩
    · exact .inr ⟨b, ys, e, .inr (s _ _ q)⟩
theorem OrdIs.ord {H : Hp} {q : Int} {x : V} (h : OrdIs H q x true) : ∃ o, OrdAt H x o ∧ isOrd q o = true := by
  rcases h with ⟨_, z⟩ | ⟨a, xs, e, h, z⟩ | ⟨a, xs, e, h, k, z⟩
  · cases z
  · cases z
  · obtain ⟨o, rfl, w⟩ := isOV_ord z.symm
    exact ⟨o, ⟨a, e, h⟩, w⟩
/-! ### the promises -/
def sp_is_whole : Sp := fun vs H Q _ => ∃ x, vs = [x] ∧ Thing H x ∧ Q (.bl (isI x)) H
def sp_is_between : Sp := fun vs H Q _ => ∃ x l h, vs = [x, .int l, .int h] ∧ Thing H x ∧ Q (.bl (isB x l h)) H
def sp_is_order : Sp := fun vs H Q _ => ∃ x q b, vs = [x, .int q] ∧ OrdIs H q x b ∧ Q (.bl b) H
def sp_place_of (C : Addr) : Sp := fun vs H Q E => ∃ x b, vs = [x] ∧ OrdIs H 8 x b ∧ (b = false → E (.ref C) none H) ∧ (∀ o, b = true → OrdAt H x o → isOrd 8 o = true → ∀ p, H p = none → Q (.ref p) (upd H p (.tup [.int o.p, .int o.n])))
theorem gets {α β : Type} {F : α → β → Prop} : ∀ {xs : List α} {ys : List β} {i : Nat} {x : α}, Paired F xs ys → xs[i]? = some x → ∃ y, ys[i]? = some y ∧ F x y
  | _, _, i, x, .nil, e => by simp at e
  | _, _, 0, x, .cons h _, e => by
    have e' := Option.some.inj e
    subst e'
    exact ⟨_, rfl, h⟩
  | _, _, i + 1, x, .cons _ t, e => gets (i := i) t e
def sp_town (K : PySem.W.Frag) : Sp := fun vs H Q _ => ∃ (a : Addr) (ns : List Int), vs = [.ref a] ∧ SqL K H a (ns.map V.int) ∧ ∀ T R H', H T = none → H R = none → Same H H' → Town T R H' → Q (.ref T) H'
def sp_draw : Sp := fun vs H Q _ => ∃ (T R : Addr) (m : Int), vs = [.ref T, .int m] ∧ Town T R H ∧ 1 ≤ m ∧ m < 1073741824 ∧ ∀ d H', 0 ≤ d → d < m → Town T R H' → KeepT T R H H' → Q (.int d) H'
def sp_pick : Sp := fun vs H Q _ => ∃ (T R S : Addr) (xs : List V), vs = [.ref T, .ref S] ∧ Town T R H ∧ H S = some (.lst xs) ∧ S ≠ T ∧ S ≠ R ∧ 0 < xs.length ∧ xs.length ≤ 1000 ∧
  ∀ (i : Nat) (x : V) (H' : Hp), xs[i]? = some x → Town T R H' → KeepT T R H H' → Q x H'
/-! ### things that stay -/
/-- lists stay lists, tuples stay as they are -/
def Stay (H H' : Hp) : Prop := (∀ a xs, H a = some (.lst xs) → ∃ ys, H' a = some (.lst ys)) ∧ ∀ a xs, H a = some (.tup xs) → H' a = some (.tup xs)
theorem Stay.of {H H' : Hp} (s : Same H H') : Stay H H' := ⟨fun a xs e => ⟨xs, s _ _ e⟩, fun a xs e => s _ _ e⟩
theorem Thing.stay {H H' : Hp} {x : V} (s : Stay H H') (h : Thing H x) : Thing H' x := by
  rcases h with h | ⟨a, xs, e, h | h⟩
  · exact .inl h
  · obtain ⟨ys, h'⟩ := s.1 _ _ h
    exact .inr ⟨a, ys, e, .inl h'⟩
  · exact .inr ⟨a, xs, e, .inr (s.2 _ _ h)⟩
theorem OrdIs.stay {H H' : Hp} {q : Int} {x : V} {b : Bool} (s : Stay H H') (h : OrdIs H q x b) : OrdIs H' q x b := by
  rcases h with h | ⟨a, xs, e, h, z⟩ | ⟨a, xs, e, h, k, z⟩
  · exact .inl h
  · obtain ⟨ys, h'⟩ := s.1 _ _ h
    exact .inr (.inl ⟨a, ys, e, h', z⟩)
  · exact .inr (.inr ⟨a, xs, e, s.2 _ _ h, fun y hy => (k y hy).stay s, z⟩)
theorem ord_tup {H : Hp} {q : Int} {a : Addr} {xs : List V} {b : Bool} (h : H a = some (.tup xs)) (hx : ∀ y ∈ xs, simple y = true) (e : isOV q xs = b) : OrdIs H q (.ref a) b :=
  .inr (.inr ⟨a, xs, rfl, h, fun y hy => .inl (hx y hy), e.symm⟩)
theorem isOV_of {q : Int} {o : O} (h : isOrd q o = true) : isOV q (ordV o) = true := by
  obtain ⟨h1, h2, h3, h4, h5, h6, h7, h8, h9⟩ := isOrd_iff.mp h
  simp [isOV, ordV, isB, h1, h2, h3, h4, h5, h6, h7, h8, h9]
theorem iteJ {c : Bool} {X Y : VK → Prop} {Q : VK} (F : VK) (hx : c = true → ∀ Q' : VK, (∀ v H, F v H → Q' v H) → X Q') (hy : c = false → ∀ Q' : VK, (∀ v H, F v H → Q' v H) → Y Q') (hq : ∀ v H, F v H → Q v H) : if c = true then X Q else Y Q := by
  cases c with
  | true => exact iteT (hx rfl Q hq)
  | false => exact iteF (hy rfl Q hq)
theorem isOrd_mono {q q' : Int} {o : O} (h : isOrd q o = true) (l : q ≤ q') : isOrd q' o = true := by
  have := isOrd_iff.mp h
  exact isOrd_iff.mpr (by omega)
/-! ### sums and rows of orders of any kind -/
def sumOk (xs : List V) : Bool := decide (2 ≤ xs.length ∧ xs.length ≤ 8) && xs.all fun z => isB z 0 1000
def SumIs (H : Hp) (q : Int) (y : V) (b : Bool) : Prop := (simple y = true ∧ b = false) ∨ (∃ a xs, y = .ref a ∧ H a = some (.tup xs) ∧ b = false) ∨
  (∃ a xs, y = .ref a ∧ H a = some (.lst xs) ∧ xs.length ≤ 1000 ∧ (∀ z ∈ xs, simple z = true) ∧ b = sumOk xs ∧ (b = true → q = xs.length))
def AudIs (H : Hp) (q : Int) (x : V) (c : Bool) : Prop := (simple x = true ∧ c = false) ∨ (∃ a xs, x = .ref a ∧ H a = some (.tup xs) ∧ c = false) ∨ (∃ a, x = .ref a ∧ H a = some (.dK []) ∧ c = false) ∨
  (∃ a xs bs, x = .ref a ∧ H a = some (.lst xs) ∧ xs.length ≤ 1000 ∧ Paired (OrdIs H q) xs bs ∧ bs.all id = false ∧ c = false) ∨
  (∃ a xs os, x = .ref a ∧ H a = some (.lst xs) ∧ xs.length ≤ 1000 ∧ OrdsAt H xs os ∧ os.all (isOrd q) = true ∧ c = decide ((os.map fun o => (o.p, o.n)).Nodup))
theorem SumIs.same {H H' : Hp} {q : Int} {y : V} {b : Bool} (s : Same H H') (h : SumIs H q y b) : SumIs H' q y b := by
  rcases h with h | ⟨a, xs, e, h, z⟩ | ⟨a, xs, e, h, k, z⟩
  · exact .inl h
  · exact .inr (.inl ⟨a, xs, e, s _ _ h, z⟩)
  · exact .inr (.inr ⟨a, xs, e, s _ _ h, k, z⟩)
def g1 : O := ⟨0, 0, 1, 5⟩
def g2 : O := ⟨1, 0, 0, 5⟩
/-- the orders and sums with which the law asks something that is told -/
def Suc (H : Hp) (x y : V) : Prop := ∃ a ya xs os ss, x = .ref a ∧ y = .ref ya ∧ H a = some (.lst xs) ∧ OrdsAt H xs os ∧ H ya = some (.lst (ss.map V.int)) ∧ ((os = [g1, g2] ∧ ss = [1000, 0]) ∨ (os = [] ∧ ss = [0, 0]))
theorem Suc.same {H H' : Hp} {x y : V} (s : Same H H') (h : Suc H x y) : Suc H' x y := by
  obtain ⟨a, ya, xs, os, ss, e1, e2, h1, h2, h3, h4⟩ := h
  exact ⟨a, ya, xs, os, ss, e1, e2, s _ _ h1, ords_same s h2, s _ _ h3, h4⟩
theorem AudIs.same {H H' : Hp} {q : Int} {x : V} {c : Bool} (s : Same H H') (h : AudIs H q x c) : AudIs H' q x c := by
  rcases h with h | ⟨a, xs, e, h, z⟩ | ⟨a, e, h, z⟩ | ⟨a, xs, bs, e, h, l, k, z⟩ | ⟨a, xs, os, e, h, l, k, z⟩
  · exact .inl h
  · exact .inr (.inl ⟨a, xs, e, s _ _ h, z⟩)
  · exact .inr (.inr (.inl ⟨a, e, s _ _ h, z⟩))
  · exact .inr (.inr (.inr (.inl ⟨a, xs, bs, e, s _ _ h, l, Paired.mapP k fun _ _ => OrdIs.same s, z⟩)))
  · exact .inr (.inr (.inr (.inr ⟨a, xs, os, e, s _ _ h, l, ords_same s k, z⟩)))
def sp_law (K : PySem.W.Frag) : Sp := fun vs H Q _ => ∃ (a : Addr) (ns : List Int), vs = [.ref a] ∧ SqL K H a (ns.map V.int) ∧ ns.length ≤ 63 ∧ ∀ H', Q (.bl true) H'
section
variable {P : Program} {w : World} {K : PySem.W.Frag} {mg : Str → Option Value} {base : Heap} {t : Ad}
theorem ok_is_whole (T : Txt K mg t) : FnOk P w K mg base CX0 1 t.f_is_whole t.d_is_whole ["thing"] sp_is_whole := by
  refine T.F_is_whole.ok sc_is_whole (fun vs H Q E h => ?_) (fun cdv A outer s H vs Q E hr h => ?_)
  · obtain ⟨i, rfl, _⟩ := h
    rfl
  · obtain ⟨x, rfl, th, q⟩ := h
    refine ⟨_, (@pss_one _ _ _ (ps_ret (pe_and (pe_callB call_isinst rfl T.n_isinstance boot_isinstance (@pa_2 _ _ _ _ _ (pv 0) (pe_bltn (v := .ty "int") rfl T.n_int boot_int rfl) rfl rfl)) (pe_one (pe_not (pe_callB call_isinst rfl T.n_isinstance boot_isinstance (@pa_2 _ _ _ _ _ (pv 0) (pe_bltn (v := .ty "bool") rfl T.n_bool boot_bool rfl) rfl rfl))))))), ?_⟩
    rcases th with z | ⟨a, xs, rfl, e | e⟩
    · cases x with
      | non => exact ⟨_, rfl, _, _, _, false, rfl, .non, rfl, _, rfl, iteF q⟩
      | bl b => exact ⟨_, rfl, _, _, _, true, rfl, .bl _, rfl, _, rfl, iteT ⟨_, rfl, _, _, _, true, rfl, .bl _, rfl, _, rfl, q⟩⟩
      | int i => exact ⟨_, rfl, _, _, _, true, rfl, .int _, rfl, _, rfl, iteT ⟨_, rfl, _, _, _, false, rfl, .int _, rfl, _, rfl, q⟩⟩
      | str i => exact ⟨_, rfl, _, _, _, false, rfl, .str _, rfl, _, rfl, iteF q⟩
      | _ => cases z
    · exact ⟨_, rfl, _, _, _, false, rfl, .lst e, rfl, _, rfl, iteF q⟩
    · exact ⟨_, rfl, _, _, _, false, rfl, .tup e, rfl, _, rfl, iteF q⟩
theorem isB_no {x : V} {l h : Int} (e : isI x = false) : isB x l h = false := by cases x <;> first | rfl | cases e
theorem ok_is_between (T : Txt K mg t) : FnOk P w K mg base CX0 2 t.f_is_between t.d_is_between ["thing", "low", "high"] sp_is_between := by
  refine T.F_is_between.ok sc_is_between (fun vs H Q E h => ?_) (fun cdv A outer s H vs Q E hr h => ?_)
  · obtain ⟨i, l, h, rfl, _⟩ := h
    rfl
  · obtain ⟨x, l, u, rfl, th, q⟩ := h
    refine ⟨_, (@pss_one _ _ _ (ps_ret (pe_and (pe_call (ok_is_whole T) (hr.mono (by decide)) rfl T.m_is_whole T.F_is_whole.kp T.b_is_whole .nil pass0 (pa_more (pv 0) pa_nil)) (pe_one (pe_chain op_le op_le (pv 1) (pv 0) (pv 2)))))), ?_⟩
    refine ⟨_, rfl, x, rfl, th, _, rfl, ?_⟩
    cases hx : isI x with
    | false =>
      rw [isB_no hx] at q
      exact iteF q
    | true =>
      cases x with
      | int i =>
        refine iteT ?_
        refine ⟨_, rfl, _, rfl, _, _, rfl, rfl, _, rfl, ?_⟩
        have q' : Q (.bl (decide (l ≤ i ∧ i ≤ u))) H := q
        refine ite2 (fun h1 => ?_) (fun h1 => ?_)
        · refine ⟨_, rfl, _, _, rfl, rfl, ?_⟩
          have e : decide (l ≤ i ∧ i ≤ u) = decide (i ≤ u) := by
            have h1' := of_decide_eq_true h1
            simp [h1']
          rw [e] at q'
          exact q'
        · have e : decide (l ≤ i ∧ i ≤ u) = false := by
            have h1' : ¬ l ≤ i := fun z => h1 (decide_eq_true z)
            simp [h1']
          rw [e] at q'
          exact q'
      | _ => cases hx
theorem ok_is_order (T : Txt K mg t) : FnOk P w K mg base CX0 3 t.f_is_order t.d_is_order ["thing", "purses"] sp_is_order := by
  refine T.F_is_order.ok sc_is_order (fun vs H Q E h => ?_) (fun cdv A outer s H vs Q E hr h => ?_)
  · obtain ⟨a, o, q, rfl, _⟩ := h
    rfl
  · obtain ⟨x, q, b, rfl, hx, k⟩ := h
    refine ⟨_, (@pss_cons _ _ _ _ _ (ps_if (PW.pt (pw_or (pt_not (pt_val (pe_callB call_isinst rfl T.n_isinstance boot_isinstance (@pa_2 _ _ _ _ _ (pv 0) (pe_bltn (v := .ty "tuple") rfl T.n_tuple boot_tuple rfl) rfl rfl)))) (pw_or1 (pt_cmpR op_ne (pe_callB call_len_seq rfl T.n_len boot_len (pa_more (pv 0) pa_nil)) pe_int (nomark _))))) (@pss_one _ _ _ (ps_ret pe_bl)) pss_nil)
      (@pss_cons _ _ _ _ _ (ps_asg (pv 0) (pg_tup rfl (pgs_cons (pg_name (i := 2) sc_is_order.nd rfl (Or.inl rfl)) (pgs_cons (pg_name (i := 3) sc_is_order.nd rfl (Or.inl rfl)) (pgs_cons (pg_name (i := 4) sc_is_order.nd rfl (Or.inl rfl)) (pgs_cons (pg_name (i := 5) sc_is_order.nd rfl (Or.inl rfl)) pgs_nil))))))
      (@pss_cons _ _ _ _ _ (ps_if (PW.pt (pw_or (pt_not (pt_val (pe_call (ok_is_between T) (hr.mono (by decide)) rfl T.m_is_between T.F_is_between.kp T.b_is_between .nil pass0 (@pa_3 _ _ _ _ _ _ _ (pv 2) pe_int (pe_op op_sub (pv 1) pe_int) rfl rfl rfl)))) (pw_or1 (pt_not (pt_val (pe_call (ok_is_between T) (hr.mono (by decide)) rfl T.m_is_between T.F_is_between.kp T.b_is_between .nil pass0 (@pa_3 _ _ _ _ _ _ _ (pv 4) pe_int (pe_op op_sub (pv 1) pe_int) rfl rfl rfl))))))) (@pss_one _ _ _ (ps_ret pe_bl)) pss_nil)
      (@pss_one _ _ _ (ps_ret (pe_and (pe_cmpR op_ne (pv 2) (pv 4) (nomark _)) (pe_and (pe_call (ok_is_between T) (hr.mono (by decide)) rfl T.m_is_between T.F_is_between.kp T.b_is_between .nil pass0 (@pa_3 _ _ _ _ _ _ _ (pv 3) pe_int (pe_glob (v := .int 99) rfl T.c_LAST_NUMBER.choose_spec ⟨_, rfl⟩) rfl rfl rfl)) (pe_one (pe_call (ok_is_between T) (hr.mono (by decide)) rfl T.m_is_between T.F_is_between.kp T.b_is_between .nil pass0 (@pa_3 _ _ _ _ _ _ _ (pv 5) pe_int (pe_glob (v := .int 1000) rfl T.c_MOST_MUCH.choose_spec ⟨_, rfl⟩) rfl rfl rfl)))))))))), ?_⟩
    rcases hx with ⟨z, rfl⟩ | ⟨a, xs, rfl, e, rfl⟩ | ⟨a, xs, rfl, e, th, rfl⟩
    · cases x with
      | non => exact ⟨_, rfl, _, _, _, false, rfl, .non, rfl, _, rfl, iteT k⟩
      | bl b => exact ⟨_, rfl, _, _, _, false, rfl, .bl _, rfl, _, rfl, iteT k⟩
      | int i => exact ⟨_, rfl, _, _, _, false, rfl, .int _, rfl, _, rfl, iteT k⟩
      | str i => exact ⟨_, rfl, _, _, _, false, rfl, .str _, rfl, _, rfl, iteT k⟩
      | _ => cases z
    · exact ⟨_, rfl, _, _, _, false, rfl, .lst e, rfl, _, rfl, iteT k⟩
    · refine ⟨_, rfl, _, _, _, true, rfl, .tup e, rfl, _, rfl, iteF ?_⟩
      refine ⟨_, rfl, a, xs, rfl, .inr (SqT.of e), ?_⟩
      by_cases hl : xs.length = 4
      · match xs, hl with
        | [p, n, g, m], _ =>
          refine ⟨rfl, _, rfl, iteF ?_⟩
          refine ⟨_, rfl, a, _, rfl, SqT.of e, rfl, _, _, rfl, _, _, rfl, _, _, rfl, _, _, rfl, rfl, ?_⟩
          have tp := th p (by simp)
          have tn := th n (by simp)
          have tg := th g (by simp)
          have tm := th m (by simp)
          have fin : ∀ b, b = isOV q [p, n, g, m] → Q (.bl b) H := fun b e => e ▸ k
          refine ⟨_, rfl, _, rfl, _, _, rfl, rfl, _, _, _, rfl, tp, _, rfl, ?_⟩
          cases h1 : isB p 0 (q - 1) with
          | false => exact iteT (fin _ (by simp [isOV, h1]))
          | true =>
            refine iteF ?_
            refine ⟨_, rfl, _, rfl, _, _, rfl, rfl, _, _, _, rfl, tg, _, rfl, ?_⟩
            cases h2 : isB g 0 (q - 1) with
            | false => exact iteT (fin _ (by simp [isOV, h2]))
            | true =>
              refine iteF ?_
              obtain ⟨i, rfl, _, _⟩ := isB_int h1
              obtain ⟨j, rfl, _, _⟩ := isB_int h2
              refine ⟨_, rfl, _, rfl, rfl, _, rfl, ?_⟩
              refine ite2 (fun h3 => ?_) (fun h3 => fin _ ?_)
              · have z3 : ¬ i = j := by simpa using h3
                refine ⟨_, rfl, _, _, _, rfl, tn, _, rfl, ?_⟩
                cases h4 : isB n 0 99 with
                | false => exact iteF (fin _ (by simp [isOV, h4]))
                | true => exact iteT ⟨_, rfl, _, _, _, rfl, tm, fin _ (by simp [isOV, h1, h2, h4, z3])⟩
              · have z3 : i = j := by simpa using h3
                simp [isOV, z3]
      · have e0 : isOV q xs = false := by
          unfold isOV
          split
          · exact absurd rfl hl
          · rfl
        rw [e0] at k
        have hl' : ¬ (xs.length : Int) = 4 := by omega
        refine ⟨rfl, _, rfl, ?_⟩
        refine ite2 (fun _ => k) (fun h1 => ?_)
        exact absurd (by simpa using h1) hl'
theorem ordIs_of {H : Hp} {q : Int} {p : Addr} {o : O} (h : H p = some (.tup (ordV o))) (e : isOrd q o = true) : OrdIs H q (.ref p) true := ord_tup h (fun y hy => by
  simp only [ordV, List.mem_cons, List.not_mem_nil, or_false] at hy
  rcases hy with rfl | rfl | rfl | rfl <;> rfl) (isOV_of e)
/-! ### a list of orders, of any kind -/
def AudIs0 (H : Hp) (q : Int) (x : V) (c : Bool) : Prop := (simple x = true ∧ c = false) ∨ (∃ a xs, x = .ref a ∧ H a = some (.tup xs) ∧ c = false) ∨ (∃ a, x = .ref a ∧ H a = some (.dK []) ∧ c = false) ∨
  (∃ a xs bs, x = .ref a ∧ H a = some (.lst xs) ∧ xs.length ≤ 1000 ∧ Paired (OrdIs H q) xs bs ∧ c = bs.all id)
theorem ords_is {H : Hp} {q : Int} : ∀ {xs : List V} {os : List O}, OrdsAt H xs os → os.all (isOrd q) = true → Paired (OrdIs H q) xs (os.map fun _ => true)
  | _, _, .nil, _ => .nil
  | _, _, .cons h t, e => by
    rw [List.all_cons, Bool.and_eq_true] at e
    obtain ⟨a, rfl, ha⟩ := h
    exact .cons (ordIs_of ha e.1) (ords_is t e.2)
theorem all_true {α : Type} (l : List α) : (l.map fun _ => true).all id = true := by rw [List.all_map]; exact List.all_eq_true.mpr fun _ _ => rfl
theorem AudIs.split {H : Hp} {q : Int} {x : V} {c : Bool} (h : AudIs H q x c) : (AudIs0 H q x false ∧ c = false) ∨ (AudIs0 H q x true ∧ ∃ a xs os, x = .ref a ∧ H a = some (.lst xs) ∧ xs.length ≤ 1000 ∧ OrdsAt H xs os ∧ os.all (isOrd q) = true ∧ c = decide ((os.map fun o => (o.p, o.n)).Nodup)) := by
  rcases h with ⟨h, z⟩ | ⟨a, xs, e, h, z⟩ | ⟨a, e, h, z⟩ | ⟨a, xs, bs, e, h, l, k, z, w⟩ | ⟨a, xs, os, e, h, l, k, z, w⟩
  · exact .inl ⟨.inl ⟨h, rfl⟩, z⟩
  · exact .inl ⟨.inr (.inl ⟨a, xs, e, h, rfl⟩), z⟩
  · exact .inl ⟨.inr (.inr (.inl ⟨a, e, h, rfl⟩)), z⟩
  · exact .inl ⟨.inr (.inr (.inr ⟨a, xs, bs, e, h, l, k, z.symm⟩)), w⟩
  · exact .inr ⟨.inr (.inr (.inr ⟨a, xs, _, e, h, l, ords_is k z, (all_true os).symm⟩)), a, xs, os, e, h, l, k, z, w⟩
theorem AudIs0.same {H H' : Hp} {q : Int} {x : V} {c : Bool} (s : Same H H') (h : AudIs0 H q x c) : AudIs0 H' q x c := by
  rcases h with h | ⟨a, xs, e, h, z⟩ | ⟨a, e, h, z⟩ | ⟨a, xs, bs, e, h, l, k, z⟩
  · exact .inl h
  · exact .inr (.inl ⟨a, xs, e, s _ _ h, z⟩)
  · exact .inr (.inr (.inl ⟨a, e, s _ _ h, z⟩))
  · exact .inr (.inr (.inr ⟨a, xs, bs, e, s _ _ h, l, Paired.mapP k fun _ _ => OrdIs.same s, z⟩))
/-! ### places -/
def keyO (o : O) : List Key := [Sum.inl o.p, Sum.inl o.n]
def pairsOf (os : List O) (xs : List V) : List (List Key × V) := (os.map keyO).zip xs
def foldP (l : List (List Key × V)) : List (List Key × V) := l.foldl (fun acc kv => putK acc kv.1 kv.2) []
theorem foldP_snoc (l : List (List Key × V)) (x : List Key × V) : foldP (l ++ [x]) = putK (foldP l) x.1 x.2 := by
  unfold foldP
  rw [List.foldl_append]
  rfl
theorem snocInd {α : Type} {P : List α → Prop} (h0 : P []) (hs : ∀ l x, P l → P (l ++ [x])) (l : List α) : P l := by
  have h : ∀ m : List α, P m.reverse := fun m => by
    induction m with
    | nil => exact h0
    | cons a m ih =>
      rw [List.reverse_cons]
      exact hs _ _ ih
  have := h l.reverse
  rwa [List.reverse_reverse] at this
theorem tYes_i {σ : St} {H : Hp} {F G : Hp → Prop} (h : F H) : tYes σ H (fun b H3 => if b = true then F H3 else G H3) := iteT (A := F H) (B := G H) h
theorem foldP_le : ∀ l : List (List Key × V), (foldP l).length ≤ l.length := by
  refine snocInd (Nat.le_refl _) fun l x ih => ?_
  · rw [foldP_snoc]
    have := length_putK (foldP l) x.1 x.2
    rw [List.length_append]
    show _ ≤ l.length + 1
    omega
theorem valV_some_of_mem {l : List (List Key × V)} {k : List Key} (h : k ∈ l.map (·.1)) : ∃ v, valV l k = some v := by
  cases e : valV l k with
  | none => exact absurd h (valV_not e)
  | some v => exact ⟨v, rfl⟩
theorem putK_len_in {l : List (List Key × V)} {k : List Key} {v : V} (h : k ∈ l.map (·.1)) : (putK l k v).length = l.length := by
  obtain ⟨x, hx⟩ := valV_some_of_mem h
  unfold putK
  rw [valV_any, hx]
  simp
theorem nodup_snoc {α : Type} {l : List α} {x : α} : (l ++ [x]).Nodup ↔ l.Nodup ∧ x ∉ l := by
  rw [List.nodup_append]
  constructor
  · rintro ⟨h1, _, h3⟩
    exact ⟨h1, fun hx => h3 x hx x (by simp) rfl⟩
  · rintro ⟨h1, h2⟩
    refine ⟨h1, by simp, fun a ha b hb => ?_⟩
    have : b = x := by simpa using hb
    subst this
    intro z
    subst z
    exact h2 ha
theorem foldP_nd : ∀ l : List (List Key × V), ((l.map (·.1)).Nodup → foldP l = l) ∧ (¬ (l.map (·.1)).Nodup → (foldP l).length < l.length) := by
  refine snocInd ⟨fun _ => rfl, fun h => absurd List.nodup_nil h⟩ fun l x ih => ?_
  · rw [foldP_snoc, List.map_append, List.length_append]
    show ((l.map (·.1) ++ [x.1]).Nodup → _) ∧ (¬ (l.map (·.1) ++ [x.1]).Nodup → _ < l.length + 1)
    rw [nodup_snoc]
    constructor
    · rintro ⟨h1, h2⟩
      rw [ih.1 h1]
      refine putK_new x.2 ?_
      cases e : valV l x.1 with
      | none => rfl
      | some v => exact absurd (valV_in e) h2
    · intro h
      have hl := length_putK (foldP l) x.1 x.2
      by_cases h1 : (l.map (·.1)).Nodup
      · have h2 : x.1 ∈ l.map (·.1) := Classical.byContradiction fun z => h ⟨h1, z⟩
        rw [ih.1 h1, putK_len_in h2]
        exact Nat.lt_succ_self _
      · have := ih.2 h1
        omega
theorem keyO_inj {o u : O} : keyO o = keyO u ↔ (o.p, o.n) = (u.p, u.n) := by simp [keyO]
theorem keys_nd : ∀ {os : List O}, (os.map keyO).Nodup ↔ (os.map fun o : O => (o.p, o.n)).Nodup
  | [] => by simp
  | o :: os => by
    rw [List.map_cons, List.map_cons, List.nodup_cons, List.nodup_cons, keys_nd (os := os)]
    have e : keyO o ∈ os.map keyO ↔ (o.p, o.n) ∈ os.map fun o : O => (o.p, o.n) := by
      rw [List.mem_map, List.mem_map]
      constructor
      · rintro ⟨u, hu, z⟩
        exact ⟨u, hu, keyO_inj.mp z⟩
      · rintro ⟨u, hu, z⟩
        exact ⟨u, hu, keyO_inj.mpr z⟩
    rw [e]
theorem pairs_keys {H : Hp} : ∀ {xs : List V} {os : List O}, OrdsAt H xs os → (pairsOf os xs).map (·.1) = os.map keyO
  | _, _, .nil => rfl
  | _, _, .cons h t => by
    show _ :: _ = _ :: _
    congr 1
    exact pairs_keys t
theorem pairs_len {H : Hp} {xs : List V} {os : List O} (h : OrdsAt H xs os) : (pairsOf os xs).length = os.length := by
  have := congrArg List.length (pairs_keys h)
  rwa [List.length_map, List.length_map] at this
/-- how many places there are -/
theorem places_many {H : Hp} {xs : List V} {os : List O} (h : OrdsAt H xs os) : decide (((foldP (pairsOf os xs)).length : Int) < (xs.length : Int)) = !decide ((os.map fun o : O => (o.p, o.n)).Nodup) := by
  have e1 := pairs_len h
  have e2 : xs.length = os.length := Paired.length h
  have e3 := foldP_nd (pairsOf os xs)
  rw [pairs_keys h, keys_nd] at e3
  by_cases hn : (os.map fun o : O => (o.p, o.n)).Nodup
  · rw [decide_eq_true hn, e3.1 hn]
    exact decide_eq_false (by omega)
  · rw [decide_eq_false hn]
    have := e3.2 hn
    exact decide_eq_true (by omega)
theorem pairs_take {os : List O} {xs : List V} {i : Nat} {o : O} {x : V} (ho : os[i]? = some o) (hx : xs[i]? = some x) : pairsOf (os.take (i + 1)) (xs.take (i + 1)) = pairsOf (os.take i) (xs.take i) ++ [(keyO o, x)] := by
  unfold pairsOf
  rw [take_snoc ho, take_snoc hx, List.map_append]
  have h1 := (List.getElem?_eq_some_iff.mp ho).1
  have h2 := (List.getElem?_eq_some_iff.mp hx).1
  rw [List.zip_append (by rw [List.length_map, List.length_take, List.length_take]; omega)]
  rfl
def findO (os : List O) (i n : Int) : Option O := os.find? fun o => decide (o.p = i ∧ o.n = n)
def OptAt (H : Hp) (v : V) : Option O → Prop
  | none => v = .non
  | some o => OrdAt H v o
theorem OptAt.same {H H' : Hp} {v : V} {o : Option O} (s : Same H H') (h : OptAt H v o) : OptAt H' v o := by
  cases o with
  | none => exact h
  | some o => exact OrdAt.same s h
theorem val_find {H : Hp} (i n : Int) : ∀ {xs : List V} {os : List O}, OrdsAt H xs os → OptAt H ((valV (pairsOf os xs) [Sum.inl i, Sum.inl n]).getD .non) (findO os i n)
  | _, _, .nil => rfl
  | x :: xs, o :: os, .cons h t => by
    by_cases e : o.p = i ∧ o.n = n
    · have e1 : keyO o = [Sum.inl i, Sum.inl n] := by simp [keyO, e]
      have e2 : valV (pairsOf (o :: os) (x :: xs)) [Sum.inl i, Sum.inl n] = some x := valV_pos (p := (keyO o, x)) e1
      have e3 : findO (o :: os) i n = some o := by unfold findO; rw [List.find?_cons, decide_eq_true e]
      rw [e2, e3]
      exact h
    · have e1 : ¬ keyO o = [Sum.inl i, Sum.inl n] := fun z => e (by simpa [keyO] using z)
      have e2 : valV (pairsOf (o :: os) (x :: xs)) [Sum.inl i, Sum.inl n] = valV (pairsOf os xs) [Sum.inl i, Sum.inl n] := valV_neg (p := (keyO o, x)) e1
      have e3 : findO (o :: os) i n = findO os i n := by unfold findO; rw [List.find?_cons, decide_eq_false e]
      rw [e2, e3]
      exact val_find i n t
/-! ### a book -/
def bf (S N D : Addr) : List (Str × V) := putF "done" (.ref D) (putF "next_numbers" (.ref N) (putF "held" (.ref S) []))
theorem bf_held (S N D : Addr) : (bf S N D).lookup ("held" : Str) = some (.ref S) := by
  unfold bf
  rw [lookup_putF, if_neg (by decide +kernel), lookup_putF, if_neg (by decide +kernel), lookup_putF, if_pos rfl]
theorem bf_next (S N D : Addr) : (bf S N D).lookup ("next_numbers" : Str) = some (.ref N) := by
  unfold bf
  rw [lookup_putF, if_neg (by decide +kernel), lookup_putF, if_pos rfl]
theorem bf_done (S N D : Addr) : (bf S N D).lookup ("done" : Str) = some (.ref D) := by
  unfold bf
  rw [lookup_putF, if_pos rfl]
theorem bf_no (S N D : Addr) {m : Str} (h1 : ¬ m = "held") (h2 : ¬ m = "next_numbers") (h3 : ¬ m = "done") : (bf S N D).lookup m = none := by
  unfold bf
  rw [lookup_putF, if_neg h3, lookup_putF, if_neg h2, lookup_putF, if_neg h1]
  rfl
structure BookAt (t : Ad) (H : Hp) (p dx S N D : Addr) (hs ns : List Int) (ds : List V) : Prop where
  ob : H p = some (.ins t.a_Book dx (bf S N D))
  held : H S = some (.lst (hs.map V.int))
  next : H N = some (.lst (ns.map V.int))
  done : H D = some (.lst ds)
  sn : S ≠ N
  sd : S ≠ D
  nd : N ≠ D
theorem BookAt.same {t : Ad} {H H' : Hp} {p dx S N D : Addr} {hs ns : List Int} {ds : List V} (s : Same H H') (b : BookAt t H p dx S N D hs ns ds) : BookAt t H' p dx S N D hs ns ds :=
  ⟨s _ _ b.ob, s _ _ b.held, s _ _ b.next, s _ _ b.done, b.sn, b.sd, b.nd⟩
def sp_binit (t : Ad) : Sp := fun vs H Q _ => ∃ x dx y ss, vs = [.ref x, .ref y] ∧ H x = some (.ins t.a_Book dx []) ∧ H y = some (.lst (ss.map V.int)) ∧ ss.length ≤ 8 ∧
  ∀ S N D H', H S = none → H N = none → H D = none → BookAt t H' x dx S N D ss (List.replicate ss.length 0) [] → (∀ b o, H b = some o → b ≠ x → H' b = some o) → Q .non H'
def sp_past (t : Ad) : Sp := fun vs H Q _ => ∃ p dx S N D a o hs ns ds, vs = [.ref p, .ref a] ∧ BookAt t H p dx S N D hs ns ds ∧ H a = some (.tup (ordV o)) ∧ 0 ≤ o.p ∧ o.p.toNat < ns.length ∧ Q (.bl (decide (o.n < ns.getD o.p.toNat 0))) H
def sp_due (t : Ad) : Sp := fun vs H Q _ => ∃ p dx S N D a o hs ns ds, vs = [.ref p, .ref a] ∧ BookAt t H p dx S N D hs ns ds ∧ H a = some (.tup (ordV o)) ∧ 0 ≤ o.p ∧ o.p.toNat < ns.length ∧ o.p.toNat < hs.length ∧ Q (.bl (decide (o.n = ns.getD o.p.toNat 0 ∧ o.m ≤ hs.getD o.p.toNat 0))) H
/-- the sums, the next numbers behind an order -/
def setH (hs : List Int) (o : O) : List Int := addAt (addAt hs o.p.toNat (-o.m)) o.g.toNat o.m
def setN (ns : List Int) (o : O) : List Int := addAt ns o.p.toNat 1
def sp_settle (t : Ad) : Sp := fun vs H Q _ => ∃ p dx S N D x o hs ns ds, vs = [.ref p, x] ∧ BookAt t H p dx S N D hs ns ds ∧ OrdAt H x o ∧ isOrd ns.length o = true ∧ hs.length = ns.length ∧ ds.length ≤ 1000 ∧
  ∀ H', BookAt t H' p dx S N D (setH hs o) (setN ns o) (ds ++ [x]) → (∀ b u, H b = some u → b ≠ S → b ≠ N → b ≠ D → H' b = some u) → Q .non H'
theorem upd_none {H : Hp} {a b : Addr} {o : HO} (h : upd H a o b = none) : b ≠ a ∧ H b = none := by
  have hb : b ≠ a := fun z => by
    rw [z, upd_same] at h
    cases h
  rw [upd_ne hb] at h
  exact ⟨hb, h⟩
theorem rep0 : ∀ n : Nat, (List.replicate n [V.int 0]).flatten = (List.replicate n (0 : Int)).map V.int
  | 0 => rfl
  | n + 1 => by
    rw [List.replicate_succ, List.flatten_cons, rep0 n, List.replicate_succ]
    rfl
theorem ok_Book___init__ (T : Txt K mg t) : FnOk P w K mg base CX0 1 t.f_Book___init__ t.d_Book___init__ ["self", "sums"] (sp_binit t) := by
  refine T.F_Book___init__.ok sc_Book___init__ (fun vs H Q E h => ?_) (fun cdv A outer s H vs Q E hr h => ?_)
  · obtain ⟨x, dx, y, ss, rfl, _⟩ := h
    rfl
  · obtain ⟨x, dx, y, ss, rfl, hx, hy, hl, k⟩ := h
    refine ⟨_, (@pss_cons _ _ _ _ _ (ps_fld (pv 0) (pe_callTy call_list_of rfl T.n_list boot_list (pa_more (pv 1) pa_nil)) rfl)
      (@pss_cons _ _ _ _ _ (ps_fld (pv 0) (pe_op op_rep (@pe_lst _ _ _ _ (pa_more pe_int pa_nil)) (pe_callB call_len_seq rfl T.n_len boot_len (pa_more (pv 1) pa_nil))) rfl)
      (@pss_one _ _ _ (ps_fld (pv 0) (@pe_lst _ _ _ _ pa_nil) rfl)))), ?_⟩
    refine ⟨_, rfl, y, _, rfl, .inl (SqL.of hy), fun S hS => ⟨_, rfl, x, _, dx, _, rfl, same_upd hS _ _ hx, T.cl_Book, T.na_Book_held, (by show 0 < 1000; decide), ?_⟩⟩
    have xS : x ≠ S := ne_of_none hx hS
    have xy : y ≠ x := ne_of hy hx (by intro z; cases z)
    have yS : y ≠ S := ne_of_none hy hS
    refine ⟨(by show 1 ≤ sizeLine; decide), fun Z hZ => ?_⟩
    obtain ⟨Zx, hZ1⟩ := upd_none hZ
    obtain ⟨ZS, hZ0⟩ := upd_none hZ1
    have yZ : y ≠ Z := ne_of_none hy hZ0
    refine ⟨_, rfl, y, ss.map V.int, rfl, .inl (SqL.of (by rw [upd_ne yZ, upd_ne xy, upd_ne yS]; exact hy)), ?_⟩
    refine ⟨Z, _, [.int 0], rfl, rfl, upd_same, (by omega), (by rw [List.length_map]; omega), len1000 (by rw [List.length_map, Int.toNat_natCast]; show 1 * _ ≤ 1000; omega), fun N hN => ?_⟩
    obtain ⟨NZ, hN1⟩ := upd_none hN
    obtain ⟨Nx, hN2⟩ := upd_none hN1
    obtain ⟨NS, hN0⟩ := upd_none hN2
    refine ⟨_, rfl, x, _, dx, _, rfl, (by rw [upd_ne (Ne.symm Nx), upd_ne (Ne.symm Zx), upd_same]), T.cl_Book, T.na_Book_next_numbers, (by show 1 < 1000; decide), ?_⟩
    refine ⟨(by show 0 ≤ sizeLine; decide), fun D hD => ?_⟩
    obtain ⟨Dx, hD1⟩ := upd_none hD
    obtain ⟨DN, hD2⟩ := upd_none hD1
    obtain ⟨DZ, hD3⟩ := upd_none hD2
    obtain ⟨_, hD4⟩ := upd_none hD3
    obtain ⟨DS, hD0⟩ := upd_none hD4
    refine ⟨_, rfl, x, _, dx, _, rfl, (by rw [upd_ne (Ne.symm Dx), upd_same]), T.cl_Book, T.na_Book_done, (by show 2 < 1000; decide), ?_⟩
    have Sx := Ne.symm xS
    refine k S N D _ hS hN0 hD0 ⟨upd_same, ?_, ?_, ?_, Ne.symm NS, Ne.symm DS, Ne.symm DN⟩ fun b o e bx => ?_
    · rw [upd_ne Sx, upd_ne (Ne.symm DS), upd_ne Sx, upd_ne (Ne.symm NS), upd_ne (Ne.symm ZS), upd_ne Sx, upd_same]
    · rw [upd_ne Nx, upd_ne (Ne.symm DN), upd_ne Nx, upd_same, List.length_map, Int.toNat_natCast, rep0]
    · rw [upd_ne Dx, upd_same]
    · rw [upd_ne bx, upd_ne (ne_of_none e hD0), upd_ne bx, upd_ne (ne_of_none e hN0), upd_ne (ne_of_none e hZ0), upd_ne bx, upd_ne (ne_of_none e hS)]
      exact e
theorem ok_Book_is_past (T : Txt K mg t) : FnOk P w K mg base CX0 1 t.f_Book_is_past t.d_Book_is_past ["self", "order"] (sp_past t) := by
  refine T.F_Book_is_past.ok sc_Book_is_past (fun vs H Q E h => ?_) (fun cdv A outer s H vs Q E hr h => ?_)
  · obtain ⟨p, dx, S, N, D, a, o, hs, ns, ds, rfl, _⟩ := h
    rfl
  · obtain ⟨p, dx, S, N, D, a, o, hs, ns, ds, rfl, B, ha, p0, p1, k⟩ := h
    refine ⟨_, (@pss_one _ _ _ (ps_ret (pe_cmpR op_lt (pe_ix ix_tup (pv 1) pe_int (fun _ _ => rfl)) (pe_ix ix_list (pe_fld (pv 0) rfl) (pe_ix ix_tup (pv 1) pe_int (fun _ _ => rfl)) (fun _ _ => rfl)) (nomark _)))), ?_⟩
    exact ⟨_, rfl, a, ordV o, 1, .int o.n, rfl, rfl, SqT.of ha, rfl, _, rfl, p, _, dx, _, _, rfl, B.ob, T.cl_Book, T.na_Book_next_numbers, bf_next _ _ _, _, rfl, a, ordV o, 0, .int o.p, rfl, rfl, SqT.of ha, rfl, N, _, o.p, _, rfl, rfl, SqL.of B.next, atI_of p0 (get_map p1), _, _, rfl, rfl, k⟩
theorem ok_Book_is_due (T : Txt K mg t) : FnOk P w K mg base CX0 1 t.f_Book_is_due t.d_Book_is_due ["self", "order"] (sp_due t) := by
  refine T.F_Book_is_due.ok sc_Book_is_due (fun vs H Q E h => ?_) (fun cdv A outer s H vs Q E hr h => ?_)
  · obtain ⟨p, dx, S, N, D, a, o, hs, ns, ds, rfl, _⟩ := h
    rfl
  · obtain ⟨p, dx, S, N, D, a, o, hs, ns, ds, rfl, B, ha, p0, p1, p2, k⟩ := h
    refine ⟨_, (@pss_cons _ _ _ _ _ (ps_asg (pv 1) (pg_tup rfl (pgs_cons (pg_name (i := 2) sc_Book_is_due.nd rfl (Or.inl rfl)) (pgs_cons (pg_name (i := 3) sc_Book_is_due.nd rfl (Or.inl rfl)) (pgs_cons (pg_name (i := 4) sc_Book_is_due.nd rfl (Or.inl rfl)) (pgs_cons (pg_name (i := 5) sc_Book_is_due.nd rfl (Or.inl rfl)) pgs_nil))))))
      (@pss_one _ _ _ (ps_ret (pe_and (pe_cmpR op_eq (pv 3) (pe_ix ix_list (pe_fld (pv 0) rfl) (pv 2) (fun _ _ => rfl)) (nomark _)) (pe_one (pe_cmpR op_le (pv 5) (pe_ix ix_list (pe_fld (pv 0) rfl) (pv 2) (fun _ _ => rfl)) (nomark _))))))), ?_⟩
    refine ⟨_, rfl, a, ordV o, rfl, SqT.of ha, rfl, _, _, rfl, _, _, rfl, _, _, rfl, _, _, rfl, rfl, ?_⟩
    refine ⟨_, rfl, _, rfl, p, _, dx, _, _, rfl, B.ob, T.cl_Book, T.na_Book_next_numbers, bf_next _ _ _, _, rfl, N, _, o.p, _, rfl, rfl, SqL.of B.next, atI_of p0 (get_map p1), rfl, _, rfl, ?_⟩
    refine ite2 (fun h1 => ?_) (fun h1 => ?_)
    · have e1 : o.n = ns.getD o.p.toNat 0 := by simpa using h1
      refine ⟨_, rfl, _, rfl, p, _, dx, _, _, rfl, B.ob, T.cl_Book, T.na_Book_held, bf_held _ _ _, _, rfl, S, _, o.p, _, rfl, rfl, SqL.of B.held, atI_of p0 (get_map p2), _, _, rfl, rfl, ?_⟩
      have e2 : decide (o.n = ns.getD o.p.toNat 0 ∧ o.m ≤ hs.getD o.p.toNat 0) = decide (o.m ≤ hs.getD o.p.toNat 0) := by simp [e1]
      rw [e2] at k
      exact k
    · have e1 : ¬ o.n = ns.getD o.p.toNat 0 := fun z => h1 (by simp [z])
      have e2 : decide (o.n = ns.getD o.p.toNat 0 ∧ o.m ≤ hs.getD o.p.toNat 0) = false := decide_eq_false fun z => e1 z.1
      rw [e2] at k
      exact k
theorem ok_Book_settle (T : Txt K mg t) : FnOk P w K mg base CX0 1 t.f_Book_settle t.d_Book_settle ["self", "order"] (sp_settle t) := by
  refine T.F_Book_settle.ok sc_Book_settle (fun vs H Q E h => ?_) (fun cdv A outer s H vs Q E hr h => ?_)
  · obtain ⟨p, dx, S, N, D, x, o, hs, ns, ds, rfl, _⟩ := h
    rfl
  · obtain ⟨p, dx, S, N, D, x, o, hs, ns, ds, rfl, B, ⟨a, rfl, ha⟩, ho, hln, hld, k⟩ := h
    refine ⟨_, (@pss_cons _ _ _ _ _ (ps_asg (pv 1) (pg_tup rfl (pgs_cons (pg_name (i := 2) sc_Book_settle.nd rfl (Or.inl rfl)) (pgs_cons (pg_name (i := 3) sc_Book_settle.nd rfl (Or.inl rfl)) (pgs_cons (pg_name (i := 4) sc_Book_settle.nd rfl (Or.inl rfl)) (pgs_cons (pg_name (i := 5) sc_Book_settle.nd rfl (Or.inl rfl)) pgs_nil))))))
      (@pss_cons _ _ _ _ _ (ps_augS (pe_fld (pv 0) rfl) (pv 2) get_list (pv 5) ip_sub set_list)
      (@pss_cons _ _ _ _ _ (ps_augS (pe_fld (pv 0) rfl) (pv 4) get_list (pv 5) ip_add set_list)
      (@pss_cons _ _ _ _ _ (ps_augS (pe_fld (pv 0) rfl) (pv 2) get_list pe_int ip_add set_list)
      (@pss_one _ _ _ (ps_expr (pe_bm PySem.F.plainAttrs_list PySem.F.slot_list_append PySem.F.type_list_append mt_append (pe_fld (pv 0) rfl) (pa_more (pv 1) pa_nil)))))))), ?_⟩
    refine ⟨_, rfl, a, ordV o, rfl, SqT.of ha, rfl, _, _, rfl, _, _, rfl, _, _, rfl, _, _, rfl, rfl, ?_⟩
    have z := isOrd_iff.mp ho
    obtain ⟨l1, l2⟩ := ord_lt ho
    have l1' : o.p.toNat < hs.length := by omega
    have l2' : o.g.toNat < hs.length := by omega
    have pS : p ≠ S := ne_of B.ob B.held (by intro z; cases z)
    have pN : p ≠ N := ne_of B.ob B.next (by intro z; cases z)
    have pD : p ≠ D := ne_of B.ob B.done (by intro z; cases z)
    refine ⟨_, rfl, p, _, dx, _, _, rfl, B.ob, T.cl_Book, T.na_Book_held, bf_held _ _ _, _, rfl, S, _, o.p, _, rfl, rfl, SqL.of B.held, z.1, get_map l1', _, rfl, _, _, rfl, rfl, S, _, o.p, _, rfl, rfl, B.held, ixN_of z.1 (by rw [List.length_map]; exact l1'), ?_⟩
    have e1 : (hs.map V.int).set o.p.toNat (.int (hs.getD o.p.toNat 0 - o.m)) = (addAt hs o.p.toNat (-o.m)).map V.int := set_map _ _ _
    rw [e1]
    have l3 : o.g.toNat < (addAt hs o.p.toNat (-o.m)).length := by rw [addAt_length]; exact l2'
    refine ⟨_, rfl, p, _, dx, _, _, rfl, (by rw [upd_ne pS]; exact B.ob), T.cl_Book, T.na_Book_held, bf_held _ _ _, _, rfl, S, _, o.g, _, rfl, rfl, SqL.of upd_same, z.2.2.1, get_map l3, _, rfl, _, _, rfl, rfl, S, _, o.g, _, rfl, rfl, upd_same, ixN_of z.2.2.1 (by rw [List.length_map]; exact l3), ?_⟩
    have e2 : ((addAt hs o.p.toNat (-o.m)).map V.int).set o.g.toNat (.int ((addAt hs o.p.toNat (-o.m)).getD o.g.toNat 0 + o.m)) = (setH hs o).map V.int := set_map _ _ _
    rw [e2, upd_upd]
    have B1 : BookAt t (upd H S (.lst ((setH hs o).map V.int))) p dx S N D (setH hs o) ns ds := ⟨by rw [upd_ne pS]; exact B.ob, upd_same, by rw [upd_ne (Ne.symm B.sn)]; exact B.next, by rw [upd_ne (Ne.symm B.sd)]; exact B.done, B.sn, B.sd, B.nd⟩
    refine ⟨_, rfl, p, _, dx, _, _, rfl, B1.ob, T.cl_Book, T.na_Book_next_numbers, bf_next _ _ _, _, rfl, N, _, o.p, _, rfl, rfl, SqL.of B1.next, z.1, get_map l1, _, _, rfl, rfl, N, _, o.p, _, rfl, rfl, B1.next, ixN_of z.1 (by rw [List.length_map]; exact l1), ?_⟩
    have e3 : (ns.map V.int).set o.p.toNat (.int (ns.getD o.p.toNat 0 + 1)) = (setN ns o).map V.int := set_map _ _ _
    rw [e3]
    have B2 : BookAt t (upd (upd H S (.lst ((setH hs o).map V.int))) N (.lst ((setN ns o).map V.int))) p dx S N D (setH hs o) (setN ns o) ds := ⟨by rw [upd_ne pN]; exact B1.ob, by rw [upd_ne B.sn]; exact B1.held, upd_same, by rw [upd_ne (Ne.symm B.nd)]; exact B1.done, B.sn, B.sd, B.nd⟩
    refine ⟨_, rfl, p, _, dx, _, _, rfl, B2.ob, T.cl_Book, T.na_Book_done, bf_done _ _ _, .inl ⟨rfl, _, SqL.of B2.done⟩, _, rfl, D, ds, _, rfl, rfl, B2.done, small1000 hld, ?_⟩
    refine k _ ⟨by rw [upd_ne pD]; exact B2.ob, by rw [upd_ne B.sd]; exact B2.held, by rw [upd_ne B.nd]; exact B2.next, upd_same, B.sn, B.sd, B.nd⟩ fun b u e b1 b2 b3 => ?_
    rw [upd_ne b3, upd_ne b2, upd_ne b1]
    exact e

/-! ### the sums -/
def SumIs1 (H : Hp) (y : V) (b : Bool) : Prop := (simple y = true ∧ b = false) ∨ (∃ a xs, y = .ref a ∧ H a = some (.tup xs) ∧ b = false) ∨
  (∃ a xs, y = .ref a ∧ H a = some (.lst xs) ∧ xs.length ≤ 1000 ∧ (∀ z ∈ xs, simple z = true) ∧ b = (decide (2 ≤ xs.length) && xs.all fun z => isB z 0 1000))
def sp_sums1 : Sp := fun vs H Q _ => ∃ y b, vs = [y] ∧ SumIs1 H y b ∧ ∀ H', Same H H' → Q (.bl b) H'
def sp_sums : Sp := fun vs H Q _ => ∃ y q b, vs = [y] ∧ SumIs H q y b ∧ ∀ H', Same H H' → Q (.bl b) H'
theorem ok_are_sums (T : Txt K mg t) : FnOk P w K mg base CX0 3 t.f_are_sums t.d_are_sums ["thing"] sp_sums1 := by
  refine T.F_are_sums.ok sc_are_sums (fun vs H Q E h => ?_) (fun cdv A outer s H vs Q E hr h => ?_)
  · obtain ⟨y, b, rfl, _⟩ := h
    rfl
  · obtain ⟨y, b, rfl, hy, k⟩ := h
    refine ⟨_, (@pss_cons _ _ _ _ _ (ps_if (PW.pt (pw_or (pt_not (pt_val (pe_callB call_isinst rfl T.n_isinstance boot_isinstance (@pa_2 _ _ _ _ _ (pv 0) (pe_bltn (v := .ty "list") rfl T.n_list boot_list rfl) rfl rfl)))) (pw_or1 (pt_cmpR op_lt (pe_callB call_len_seq rfl T.n_len boot_len (pa_more (pv 0) pa_nil)) (pe_glob (v := .int 2) rfl T.c_LEAST_PURSES.choose_spec ⟨_, rfl⟩) (nomark _))))) (@pss_one _ _ _ (ps_ret pe_bl)) pss_nil)
      (@pss_one _ _ _ (ps_ret (pe_callB (call_all rfl) rfl T.n_all boot_all (pa_more (pe_lcomp (N' := ["each"]) (ix := [none]) (compOk_is (by kernel_rfl)) rfl (@pi_list _ _ _ _ (pv 0)) (fun _ _ _ _ => (pg_name (i := 0) nd_0 rfl (Or.inl rfl) (.inr rfl))) (fun _ _ _ _ => pif_nil) (fun _ _ _ _ => (pe_call (ok_is_between T) (hr.mono (by decide)) rfl T.m_is_between T.F_is_between.kp T.b_is_between .nil pass0 (@pa_3 _ _ _ _ _ _ _ (pv 0) pe_int (pe_glob (v := .int 1000) rfl T.c_MOST_FIRST_SUM.choose_spec ⟨_, rfl⟩) rfl rfl rfl)))) pa_nil))))), ?_⟩
    rcases hy with ⟨z, rfl⟩ | ⟨a, xs, rfl, e, rfl⟩ | ⟨a, xs, rfl, e, hl, hs, rfl⟩
    · cases y with
      | non => exact ⟨_, rfl, _, _, _, false, rfl, .non, rfl, _, rfl, iteT (k _ (Same.refl _))⟩
      | bl b => exact ⟨_, rfl, _, _, _, false, rfl, .bl _, rfl, _, rfl, iteT (k _ (Same.refl _))⟩
      | int i => exact ⟨_, rfl, _, _, _, false, rfl, .int _, rfl, _, rfl, iteT (k _ (Same.refl _))⟩
      | str i => exact ⟨_, rfl, _, _, _, false, rfl, .str _, rfl, _, rfl, iteT (k _ (Same.refl _))⟩
      | _ => cases z
    · exact ⟨_, rfl, _, _, _, false, rfl, .tup e, rfl, _, rfl, iteT (k _ (Same.refl _))⟩
    · refine ⟨_, rfl, _, _, _, true, rfl, .lst e, rfl, _, rfl, iteF ?_⟩
      have fin : ∀ b, b = (decide (2 ≤ xs.length) && xs.all fun z => isB z 0 1000) → ∀ H', Same H H' → Q (.bl b) H' := fun b e => e ▸ k
      refine ⟨_, rfl, a, xs, rfl, .inl (SqL.of e), _, _, rfl, rfl, _, rfl, ?_⟩
      refine ite2 (fun h1 => fin _ ?_ _ (Same.refl _)) (fun h1 => ?_)
      · have h1' : ¬ 2 ≤ xs.length := by have := of_decide_eq_true h1; omega
        rw [decide_eq_false h1', Bool.false_and]
      · have h1' : 2 ≤ xs.length := by
          have : ¬ (xs.length : Int) < 2 := fun z => h1 (decide_eq_true z)
          omega
        refine ⟨_, rfl, a, rfl, ⟨xs, SqL.of e⟩, lc_list (K := K) (a := a) (xs := xs) (fun i ys σ' H' => ∃ v, σ' = [v] ∧ H' = H ∧ ys = ((xs.map fun z => isB z 0 1000).take i).map V.bl) ⟨none, rfl, rfl, rfl⟩ ?_ ?_ ?_⟩
        · rintro i ys σ' H' hi ⟨v, rfl, rfl, rfl⟩
          refine ⟨SqL.of e, len1000 ?_⟩
          rw [List.length_map, List.length_take, List.length_map]
          omega
        · rintro i x ys σ' H' hx ⟨v, rfl, rfl, rfl⟩
          refine tYes_intro ?_
          refine ⟨_, rfl, _, _, _, rfl, .inl (hs x (List.mem_of_getElem? hx)), _, rfl, rfl, ?_⟩
          have eb : (xs.map fun z => isB z 0 1000)[i]? = some (isB x 0 1000) := by rw [List.getElem?_map, hx]; rfl
          rw [take_snoc eb, List.map_append]
          rfl
        · rintro ys σ' H' ⟨v, rfl, rfl, rfl⟩ p hp
          refine ⟨p, (xs.map fun z => isB z 0 1000), rfl, SqL.of ?_, fin _ ?_ _ (same_upd hp)⟩
          · rw [upd_same]
            have el : (xs.map fun z => isB z 0 1000).take xs.length = xs.map fun z => isB z 0 1000 := by
              have := List.take_length (l := xs.map fun z => isB z 0 1000)
              rwa [List.length_map] at this
            rw [el]
          · rw [decide_eq_true h1', Bool.true_and, List.all_map]
            rfl
theorem ok_are_first_sums (T : Txt K mg t) : FnOk P w K mg base CX0 4 t.f_are_first_sums t.d_are_first_sums ["thing"] sp_sums := by
  refine T.F_are_first_sums.ok sc_are_first_sums (fun vs H Q E h => ?_) (fun cdv A outer s H vs Q E hr h => ?_)
  · obtain ⟨y, q, b, rfl, _⟩ := h
    rfl
  · obtain ⟨y, q, b, rfl, hy, k⟩ := h
    refine ⟨_, (@pss_one _ _ _ (ps_ret (pe_and (pe_call (ok_are_sums T) (hr.mono (by decide)) rfl T.m_are_sums T.F_are_sums.kp T.b_are_sums .nil pass0 (pa_more (pv 0) pa_nil)) (pe_one (pe_cmpR op_le (pe_callB call_len_seq rfl T.n_len boot_len (pa_more (pv 0) pa_nil)) (pe_glob (v := .int 8) rfl T.c_MOST_PURSES.choose_spec ⟨_, rfl⟩) (nomark _)))))), ?_⟩
    rcases hy with ⟨z, rfl⟩ | ⟨a, xs, rfl, e, rfl⟩ | ⟨a, xs, rfl, e, hl, hs, rfl, _⟩
    · exact ⟨_, rfl, y, false, rfl, .inl ⟨z, rfl⟩, fun H1 s1 => ⟨_, rfl, iteF (k _ s1)⟩⟩
    · exact ⟨_, rfl, _, false, rfl, .inr (.inl ⟨a, xs, rfl, e, rfl⟩), fun H1 s1 => ⟨_, rfl, iteF (k _ s1)⟩⟩
    · refine ⟨_, rfl, _, _, rfl, .inr (.inr ⟨a, xs, rfl, e, hl, hs, rfl⟩), fun H1 s1 => ⟨_, rfl, ?_⟩⟩
      have fin : ∀ b, b = sumOk xs → ∀ H', Same H H' → Q (.bl b) H' := fun b e => e ▸ k
      refine ite2 (fun h1 => ?_) (fun h1 => fin _ ?_ _ s1)
      · rw [Bool.and_eq_true] at h1
        refine ⟨_, rfl, a, xs, rfl, .inl (SqL.of (s1 _ _ e)), _, _, rfl, rfl, fin _ ?_ _ s1⟩
        unfold sumOk
        rw [h1.2, Bool.and_true]
        have h2 := of_decide_eq_true h1.1
        rw [Bool.eq_iff_iff, decide_eq_true_iff, decide_eq_true_iff]
        omega
      · unfold sumOk
        cases e1 : decide (2 ≤ xs.length) with
        | false =>
          have e2 := of_decide_eq_false e1
          rw [decide_eq_false (fun z => e2 z.1), Bool.false_and]
        | true =>
          rw [e1, Bool.true_and] at h1
          cases e3 : (xs.all fun z => isB z 0 1000) with
          | true => exact absurd e3 h1
          | false => rw [Bool.and_false]
/-! ### rows of orders -/
def sp_orders2 : Sp := fun vs H Q _ => ∃ x q c, vs = [x, .int q] ∧ AudIs0 H q x c ∧ ∀ H', Same H H' → Q (.bl c) H'
theorem ok_are_orders (T : Txt K mg t) : FnOk P w K mg base CX0 4 t.f_are_orders t.d_are_orders ["things", "purses"] sp_orders2 := by
  refine T.F_are_orders.ok sc_are_orders (fun vs H Q E h => ?_) (fun cdv A outer s H vs Q E hr h => ?_)
  · obtain ⟨a, q, c, rfl, _⟩ := h
    rfl
  · obtain ⟨x, q, c, rfl, hx, k⟩ := h
    refine ⟨_, (@pss_one _ _ _ (ps_ret (pe_and (pe_callB call_isinst rfl T.n_isinstance boot_isinstance (@pa_2 _ _ _ _ _ (pv 0) (pe_bltn (v := .ty "list") rfl T.n_list boot_list rfl) rfl rfl)) (pe_one (pe_callB (call_all rfl) rfl T.n_all boot_all (pa_more (pe_lcomp (N' := ["thing", "purses"]) (ix := [none, some 1]) (compOk_is (by kernel_rfl)) rfl (@pi_list _ _ _ _ (pv 0)) (fun _ _ _ _ => (pg_name (i := 0) nd_1 rfl (Or.inl rfl) (.inr rfl))) (fun _ _ _ _ => pif_nil) (fun _ _ _ _ => (pe_callK (ok_is_order T) (hr.mono (by decide)) rfl T.m_is_order T.F_is_order.kp T.bk0_is_order pass0 (pa_more (pv 0) pa_nil) (pk_cons (pv 1) pk_nil)))) pa_nil)))))), ?_⟩
    rcases hx with ⟨z, rfl⟩ | ⟨a, xs, rfl, e, rfl⟩ | ⟨a, rfl, e, rfl⟩ | ⟨a, xs, bs, rfl, ha, hz, ho, rfl⟩
    · cases x with
      | non => exact ⟨_, rfl, _, _, _, false, rfl, .non, rfl, _, rfl, iteF (k _ (Same.refl _))⟩
      | bl b => exact ⟨_, rfl, _, _, _, false, rfl, .bl _, rfl, _, rfl, iteF (k _ (Same.refl _))⟩
      | int i => exact ⟨_, rfl, _, _, _, false, rfl, .int _, rfl, _, rfl, iteF (k _ (Same.refl _))⟩
      | str i => exact ⟨_, rfl, _, _, _, false, rfl, .str _, rfl, _, rfl, iteF (k _ (Same.refl _))⟩
      | _ => cases z
    · exact ⟨_, rfl, _, _, _, false, rfl, .tup e, rfl, _, rfl, iteF (k _ (Same.refl _))⟩
    · exact ⟨_, rfl, _, _, _, false, rfl, .dK e, rfl, _, rfl, iteF (k _ (Same.refl _))⟩
    · have hl : xs.length = bs.length := Paired.length ho
      refine ⟨_, rfl, _, _, _, true, rfl, .lst ha, rfl, _, rfl, iteT ?_⟩
      refine ⟨_, rfl, a, rfl, ⟨xs, SqL.of ha⟩, lc_list (K := K) (a := a) (xs := xs) (fun i ys σ' H' => ∃ v, σ' = [v, some (.int q)] ∧ H' = H ∧ ys = (bs.take i).map V.bl) ⟨none, rfl, rfl, rfl⟩ ?_ ?_ ?_⟩
      · rintro i ys σ' H' hi ⟨v, rfl, rfl, rfl⟩
        refine ⟨SqL.of ha, len1000 ?_⟩
        rw [List.length_map, List.length_take]
        omega
      · rintro i x ys σ' H' hx ⟨v, rfl, rfl, rfl⟩
        obtain ⟨b, eb, hb⟩ := gets ho hx
        refine tYes_intro ?_
        refine ⟨_, rfl, _, rfl, x, q, b, rfl, hb, _, rfl, rfl, ?_⟩
        rw [take_snoc eb, List.map_append]
        rfl
      · rintro ys σ' H' ⟨v, rfl, rfl, rfl⟩ p hp
        refine ⟨p, bs, rfl, SqL.of ?_, k _ (same_upd hp)⟩
        rw [upd_same, hl, List.take_length]
theorem ok_place_of (T : Txt K mg t) : FnOk P w K mg base (CX1 P w) 4 t.f_place_of t.d_place_of ["order"] (sp_place_of t.a_BadOrder) := by
  refine T.F_place_of.okX sc_place_of (fun vs H Q E h => ?_) (fun cdv A outer s H vs Q E hr h => ?_)
  · obtain ⟨a, o, rfl, _⟩ := h
    rfl
  · obtain ⟨x, b, rfl, hx, k1, k2⟩ := h
    refine ⟨_, (@pss_cons _ _ _ _ _ (ps_if (pt_not (pt_val (pe_call (ok_is_order T) (hr.mono (by decide)) rfl T.m_is_order T.F_is_order.kp T.bd0_is_order.choose_spec (show Vals [.int 8] _ from .cons ⟨_, rfl⟩ .nil) pass0 (pa_more (pv 0) pa_nil)))) (@pss_one _ _ _ (ps_raise1 rfl T.m_BadOrder T.x_BadOrder (pa_more pe_str pa_nil))) pss_nil)
      (@pss_one _ _ _ (ps_ret (@pe_tup _ _ _ _ _ (@pa_2 _ _ _ _ _ (pe_ix ix_tup (pv 0) pe_int (fun _ _ => rfl)) (pe_ix ix_tup (pv 0) pe_int (fun _ _ => rfl)) rfl rfl))))), ?_⟩
    refine ⟨_, rfl, x, 8, b, rfl, hx, _, rfl, ?_⟩
    cases b with
    | false => exact iteT ⟨(by show 1 ≤ sizeLine; decide), k1 rfl⟩
    | true =>
      obtain ⟨o, ⟨a, rfl, ha⟩, ho⟩ := hx.ord
      refine iteF ?_
      exact ⟨_, rfl, a, ordV o, 0, .int o.p, rfl, rfl, SqT.of ha, rfl, _, rfl, a, ordV o, 1, .int o.n, rfl, rfl, SqT.of ha, rfl, (by show 2 ≤ sizeLine; decide), fun p hp => k2 o rfl ⟨a, rfl, ha⟩ ho p hp⟩
theorem ord_inj {H : Hp} {x : V} {o u : O} (h1 : OrdAt H x o) (h2 : OrdAt H x u) : o = u := by
  obtain ⟨a, rfl, h1⟩ := h1
  obtain ⟨b, e, h2⟩ := h2
  cases e
  have h := HO.tup.inj (Option.some.inj (h1.symm.trans h2))
  simp only [ordV, List.cons.injEq, V.int.injEq, and_true] at h
  obtain ⟨_, _, _, _⟩ := o
  obtain ⟨_, _, _, _⟩ := u
  simpa using h
def sp_byplace : Sp := fun vs H Q _ => ∃ a xs os, vs = [.ref a] ∧ H a = some (.lst xs) ∧ xs.length ≤ 1000 ∧ OrdsAt H xs os ∧ os.all (isOrd 8) = true ∧ ∀ D H', H D = none → Same H H' → H' D = some (.dT (foldP (pairsOf os xs))) → Q (.ref D) H'
theorem ok_by_place (T : Txt K mg t) : FnOk P w K mg base CX0 5 t.f_by_place t.d_by_place ["orders"] sp_byplace := by
  refine T.F_by_place.ok sc_by_place (fun vs H Q E h => ?_) (fun cdv A outer s H vs Q E hr h => ?_)
  · obtain ⟨a, xs, os, rfl, _⟩ := h
    rfl
  · obtain ⟨a, xs, os, rfl, ha, hz, ho, h8, k⟩ := h
    have hl : xs.length = os.length := Paired.length ho
    refine ⟨_, (@pss_one _ _ _ (ps_ret (pe_dcomp (.dT []) (.inr rfl) (hu_of hr) (N' := ["order"]) (ix := [none]) (compOk_is (by kernel_rfl)) rfl (@pi_list _ _ _ _ (pv 0)) (fun _ _ _ _ => (pg_name (i := 0) nd_2 rfl (Or.inl rfl) (.inr rfl))) (fun _ _ _ _ => pif_nil) (fun _ _ _ _ => (pe_call (ok_place_of T) (hr.mono (by decide)) rfl T.m_place_of T.F_place_of.kp T.b_place_of .nil pass1_0 (pa_more (pv 0) pa_nil))) (fun _ _ _ _ => (pv 0))))), ?_⟩
    refine ⟨_, rfl, a, rfl, ⟨xs, SqL.of ha⟩, fun D hD => ?_⟩
    refine dc_list (K := K) (a := a) (xs := xs) (fun i σ' H' => ∃ v, σ' = [v] ∧ Same H H' ∧ H' D = some (.dT (foldP (pairsOf (os.take i) (xs.take i))))) ⟨none, rfl, same_upd hD, upd_same⟩ (fun i σ' H' _ ⟨_, _, s', _⟩ => SqL.of (s' _ _ ha)) ?_ ?_
    · rintro i x σ' H' hx ⟨v, rfl, s', hD'⟩
      obtain ⟨o, eo, hxo⟩ := ords_get ho hx
      have ho8 : isOrd 8 o = true := List.all_eq_true.mp h8 o (List.mem_of_getElem? eo)
      have hx2 : OrdAt H' x o := OrdAt.same s' hxo
      obtain ⟨c, rfl, hc⟩ := id hx2
      refine tYes_intro ?_
      refine ⟨_, rfl, _, true, rfl, ordIs_of hc ho8, (fun z => by cases z), fun u _ hu _ q hq => ?_⟩
      have eu : u = o := ord_inj hu hx2
      subst eu
      have hq2 := same_upd (o := .tup [.int u.p, .int u.n]) hq
      refine ⟨_, rfl, _, DPut.t (k := keyO u) (hq2 _ _ hD') upd_same ?_, _, rfl, ?_, ?_⟩
      · refine small1000 (Nat.le_trans (foldP_le _) ?_)
        unfold pairsOf
        rw [List.length_zip, List.length_map, List.length_take, List.length_take]
        omega
      · intro b ob e
        rw [upd_ne (ne_of_none e hD)]
        exact hq2 _ _ (s' _ _ e)
      · rw [upd_same, pairs_take eo hx, foldP_snoc]
    · rintro σ' H' ⟨v, rfl, s', hD'⟩
      refine k D H' hD s' ?_
      rw [hD', List.take_length, hl, List.take_length]
def sp_check (C1 C2 : Addr) : Sp := fun vs H Q E => ∃ x y q b c, vs = [x, y] ∧ SumIs H q y b ∧ AudIs H q x c ∧ (b = false → ∀ H', Same H H' → E (.ref C1) none H') ∧ (b = true → c = false → ∀ H', Same H H' → E (.ref C2) none H') ∧
  (b = true → c = true → ∀ H', Same H H' → Q .non H')
theorem sum_len {H : Hp} {q : Int} {y : V} (h : SumIs H q y true) : ∃ a xs, y = .ref a ∧ H a = some (.lst xs) ∧ q = xs.length ∧ 2 ≤ xs.length ∧ xs.length ≤ 8 := by
  rcases h with ⟨_, z⟩ | ⟨a, xs, e, h, z⟩ | ⟨a, xs, e, h, hl, hs, z, w⟩
  · cases z
  · cases z
  · have z' := z.symm
    unfold sumOk at z'
    rw [Bool.and_eq_true] at z'
    have z2 := of_decide_eq_true z'.1
    exact ⟨a, xs, e, h, w rfl, z2.1, z2.2⟩
theorem ok_check_orders (T : Txt K mg t) : FnOk P w K mg base (CX1 P w) 6 t.f_check_orders t.d_check_orders ["orders", "sums"] (sp_check t.a_BadHouses t.a_BadOrder) := by
  refine T.F_check_orders.okX sc_check_orders (fun vs H Q E h => ?_) (fun cdv A outer s H vs Q E hr h => ?_)
  · obtain ⟨x, y, q, b, c, rfl, _⟩ := h
    rfl
  · obtain ⟨x, y, q, b, c, rfl, hy, hx, k1, k2, k3⟩ := h
    refine ⟨_, (@pss_cons _ _ _ _ _ (ps_if (pt_not (pt_val (pe_call (ok_are_first_sums T) (hr.mono (by decide)) rfl T.m_are_first_sums T.F_are_first_sums.kp T.b_are_first_sums .nil pass0 (pa_more (pv 1) pa_nil)))) (@pss_one _ _ _ (ps_raise1 rfl T.m_BadHouses T.x_BadHouses (pa_more pe_str pa_nil))) pss_nil)
      (@pss_cons _ _ _ _ _ (ps_if (pt_not (pt_val (pe_callK (ok_are_orders T) (hr.mono (by decide)) rfl T.m_are_orders T.F_are_orders.kp T.bk0_are_orders pass0 (pa_more (pv 0) pa_nil) (pk_cons (pe_callB call_len_seq rfl T.n_len boot_len (pa_more (pv 1) pa_nil)) pk_nil)))) (@pss_one _ _ _ (ps_raise1 rfl T.m_BadOrder T.x_BadOrder (pa_more pe_str pa_nil))) pss_nil)
      (@pss_one _ _ _ (ps_if (pt_cmpR op_lt (pe_callB call_lenT rfl T.n_len boot_len (pa_more (pe_call (ok_by_place T) (hr.mono (by decide)) rfl T.m_by_place T.F_by_place.kp T.b_by_place .nil pass0 (pa_more (pv 0) pa_nil)) pa_nil)) (pe_callB call_len_seq rfl T.n_len boot_len (pa_more (pv 0) pa_nil)) (nomark _)) (@pss_one _ _ _ (ps_raise1 rfl T.m_BadOrder T.x_BadOrder (pa_more pe_str pa_nil))) pss_nil)))), ?_⟩
    refine ⟨_, rfl, y, q, b, rfl, hy, fun H1 s1 => ⟨_, rfl, ?_⟩⟩
    cases b with
    | false => exact iteT ⟨(by show 1 ≤ sizeLine; decide), k1 rfl _ s1⟩
    | true =>
    refine iteF ?_
    obtain ⟨ya, ys, rfl, hya, eq, l2, l8⟩ := sum_len hy
    refine ⟨_, rfl, _, rfl, ya, ys, rfl, .inl (SqL.of (s1 _ _ hya)), ?_⟩
    rcases hx.split with ⟨h0, rfl⟩ | ⟨h0, a, xs, os, rfl, ha, hl, ho, hall, rfl⟩
    · refine ⟨x, _, false, rfl, (eq ▸ h0).same s1, fun H2 s2 => ⟨_, rfl, iteT ⟨(by show 1 ≤ sizeLine; decide), k2 rfl rfl _ (s1.trans s2)⟩⟩⟩
    · refine ⟨_, _, true, rfl, (eq ▸ h0).same s1, fun H2 s2 => ⟨_, rfl, iteF ?_⟩⟩
      have s12 := s1.trans s2
      have h8 : os.all (isOrd 8) = true := List.all_eq_true.mpr fun o ho' => isOrd_mono (List.all_eq_true.mp hall o ho') (by omega)
      refine ⟨_, rfl, a, xs, os, rfl, s12 _ _ ha, hl, ords_same s12 ho, h8, fun D H3 nD s3 hD => ⟨D, _, rfl, hD, _, rfl, a, xs, rfl, .inl (SqL.of (s3 _ _ (s12 _ _ ha))), _, _, rfl, rfl, _, rfl, ?_⟩⟩
      rw [places_many ho]
      have s123 := s12.trans s3
      cases hn : decide ((os.map fun o : O => (o.p, o.n)).Nodup) with
      | false => exact iteT ⟨(by show 1 ≤ sizeLine; decide), k2 rfl hn _ s123⟩
      | true => exact iteF (k3 rfl hn _ s123)
/-! ### what is due -/
def dueAt (os : List O) (ns hs : List Int) (i : Nat) : Option O := (findO os i (ns.getD i 0)).filter fun o => decide (o.m ≤ hs.getD i 0)
def dueO (os : List O) (ns hs : List Int) : List O := (List.range ns.length).filterMap (dueAt os ns hs)
theorem find_is {os : List O} {i n : Int} {o : O} (h : findO os i n = some o) : o ∈ os ∧ o.p = i ∧ o.n = n := by
  unfold findO at h
  have h2 : decide (o.p = i ∧ o.n = n) = true := List.find?_some (p := fun o : O => decide (o.p = i ∧ o.n = n)) h
  exact ⟨List.mem_of_find?_eq_some h, of_decide_eq_true h2⟩
theorem opts_same {H H' : Hp} {ys : List V} {oo : List (Option O)} (s : Same H H') (h : Paired (OptAt H) ys oo) : Paired (OptAt H') ys oo := Paired.mapP h fun _ _ => OptAt.same s
theorem paired_snoc {α β : Type} {F : α → β → Prop} : ∀ {xs : List α} {ys : List β} {x : α} {y : β}, Paired F xs ys → F x y → Paired F (xs ++ [x]) (ys ++ [y])
  | _, _, _, _, .nil, h => .cons h .nil
  | _, _, _, _, .cons a t, h => .cons a (paired_snoc t h)
def sp_dues (t : Ad) : Sp := fun vs H Q _ => ∃ C p dx S N D xs os hs ns ds, vs = [.ref C, .ref p] ∧ H C = some (.dT (pairsOf os xs)) ∧ OrdsAt H xs os ∧ os.all (isOrd ns.length) = true ∧ BookAt t H p dx S N D hs ns ds ∧ hs.length = ns.length ∧ ns.length ≤ 1000 ∧
  ∀ r ys H', H r = none → Same H H' → H' r = some (.lst ys) → OrdsAt H' ys (dueO os ns hs) → Q (.ref r) H'
theorem ok_due_orders (T : Txt K mg t) : FnOk P w K mg base CX0 2 t.f_due_orders t.d_due_orders ["places", "book"] (sp_dues t) := by
  refine T.F_due_orders.ok sc_due_orders (fun vs H Q E h => ?_) (fun cdv A outer s H vs Q E hr h => ?_)
  · obtain ⟨C, p, dx, S, N, D, xs, os, hs, ns, ds, rfl, _⟩ := h
    rfl
  · obtain ⟨C, p, dx, S, N, D, xs, os, hs, ns, ds, rfl, hC, ho, hall, B, hln, hl, k⟩ := h
    refine ⟨_, (@pss_cons _ _ _ _ _ (ps_lcomp (i := 2) sc_due_orders.nd rfl rfl (N' := ["purse", "number", "places"]) (ix := [none, none, some 0]) (compOk_is (by kernel_rfl)) rfl (pi_enum rfl T.n_enumerate (pa_more (pe_fld (pv 1) rfl) pa_nil)) (fun _ _ _ _ => (pg_tupK (K := K) (t := (gCons (gName 0) (gCons (gName 1) gNil))) rfl rfl 2 (pgs_cons (pg_name (i := 0) nd_4 rfl (Or.inl rfl) (.inr rfl)) (pgs_cons (pg_name (i := 1) nd_4 rfl (Or.inl rfl) (.inr rfl)) pgs_nil)) rfl rfl)) (fun _ _ _ _ => pif_nil) (fun _ _ _ _ => (pe_dget1 (hu_of hr) (pv 2) (@pe_tup _ _ _ _ _ (@pa_2 _ _ _ _ _ (pv 0) (pv 1) rfl rfl)) ⟨rfl, rfl, rfl, rfl⟩)))
      (@pss_one _ _ _ (ps_ret (pe_lcomp (N' := ["order", "book"]) (ix := [none, some 1]) (compOk_is (by kernel_rfl)) rfl (@pi_list _ _ _ _ (pv 2)) (fun _ _ _ _ => (pg_name (i := 0) nd_3 rfl (Or.inl rfl) (.inr rfl))) (fun _ _ _ _ => (pif_one (PW.pt (pw_and (pt_cmpR op_notN (pv 0) pe_non (nomark _)) (pw_and1 (pt_val (pe_meth (pv 1) T.cl_Book T.mt_Book_is_due (ok_Book_is_due T) (hr.mono (by decide)) T.b_Book_is_due .nil pass0 (pa_more (pv 0) pa_nil)))))))) (fun _ _ _ _ => (pv 0)))))), ?_⟩
    have isd : ∀ {H' : Hp}, Same H H' → IsD H' C := fun s' => .inr ⟨_, .inl (s' _ _ hC)⟩
    refine ⟨_, rfl, p, _, dx, _, _, rfl, B.ob, T.cl_Book, T.na_Book_next_numbers, bf_next _ _ _, N, rfl, ⟨_, SqL.of B.next⟩, ?_⟩
    refine lc_enum (K := K) (a := N) (xs := ns.map V.int) (fun i ys σ' H' => ∃ v0 v1, σ' = [v0, v1, some (.ref C)] ∧ Same H H' ∧ Paired (OptAt H') ys ((List.range i).map fun j : Nat => findO os (j : Int) (ns.getD j 0))) ⟨none, none, rfl, Same.refl _, .nil⟩ ?_ ?_ ?_
    · rintro i ys σ' H' hi ⟨v0, v1, rfl, s', hp⟩
      refine ⟨SqL.of (s' _ _ B.next), len1000 ?_⟩
      have := Paired.length hp
      rw [List.length_map, List.length_range] at this
      rw [List.length_map] at hi
      omega
    · rintro i x ys σ' H' c hx ⟨v0, v1, rfl, s', hp⟩ hc
      have hi : i < ns.length := by
        have := (List.getElem?_eq_some_iff.mp hx).1
        rwa [List.length_map] at this
      have ex : x = .int (ns.getD i 0) := by
        rw [get_map hi] at hx
        exact (Option.some.inj hx).symm
      subst ex
      have s1 := s'.trans (same_upd (o := .tup [.int (i : Int), .int (ns.getD i 0)]) hc)
      refine ⟨c, _, rfl, SqT.of upd_same, rfl, _, _, rfl, _, _, rfl, rfl, tYes_i ?_⟩
      refine ⟨_, rfl, C, rfl, isd s1, _, rfl, _, rfl, (by show 2 ≤ sizeLine; decide), fun q hq => ?_⟩
      have s2 := s1.trans (same_upd (o := .tup [.int (i : Int), .int (ns.getD i 0)]) hq)
      refine ⟨_, DGet.t (k := [Sum.inl (i : Int), Sum.inl (ns.getD i 0)]) (s2 _ _ hC) upd_same, _, _, rfl, s2, ?_⟩
      rw [List.range_succ, List.map_append]
      exact paired_snoc (opts_same ((same_upd hc).trans (same_upd hq)) hp) (val_find (i : Int) (ns.getD i 0) (ords_same s2 ho))
    · rintro ys0 σ' H1 ⟨v0, v1, rfl, s1, hp1⟩ L hL
      rw [List.length_map] at hp1
      have s2 := s1.trans (same_upd (o := .lst ys0) hL)
      have hp2 := opts_same (same_upd (o := .lst ys0) hL) hp1
      have hL2 : upd H1 L (.lst ys0) L = some (.lst ys0) := upd_same
      generalize upd H1 L (.lst ys0) = H2 at s2 hp2 hL2
      refine ⟨_, rfl, L, rfl, ⟨_, SqL.of hL2⟩, lc_list (K := K) (a := L) (xs := ys0) (fun i ys σ' H' => ∃ v, σ' = [v, some (.ref p)] ∧ Same H2 H' ∧ ys.length ≤ i ∧ OrdsAt H' ys ((List.range i).filterMap (dueAt os ns hs))) ⟨none, rfl, Same.refl _, Nat.le_refl _, .nil⟩ ?_ ?_ ?_⟩
      · rintro i ys σ' H' hi ⟨v, rfl, s', hle, hp⟩
        refine ⟨SqL.of (s' _ _ hL2), len1000 ?_⟩
        have := Paired.length hp2
        rw [List.length_map, List.length_range] at this
        omega
      · rintro i x ys σ' H' hx ⟨v, rfl, s', hle, hp⟩
        obtain ⟨oo, eo, hxo⟩ := gets hp2 hx
        have hi : i < ns.length := by
          have h1 := (List.getElem?_eq_some_iff.mp eo).1
          rwa [List.length_map, List.length_range] at h1
        have eoo : oo = findO os (i : Int) (ns.getD i 0) := by
          rw [List.getElem?_map, List.getElem?_range hi] at eo
          exact (Option.some.inj eo).symm
        have hxo' := OptAt.same s' hxo
        refine ⟨_, rfl, rfl, _, rfl, ?_⟩
        rw [List.range_succ, List.filterMap_append]
        cases oo with
        | none =>
          have ex : x = .non := hxo'
          subst ex
          refine iteF (iteF ⟨_, rfl, s', by omega, ?_⟩)
          have e0 : dueAt os ns hs i = none := by unfold dueAt; rw [← eoo]; rfl
          rw [List.filterMap_cons, e0, List.filterMap_nil, List.append_nil]
          exact hp
        | some o =>
          obtain ⟨a, rfl, ha⟩ : OrdAt H' x o := hxo'
          obtain ⟨om, ep, en⟩ := find_is eoo.symm
          have etn : o.p.toNat = i := by omega
          refine iteT ?_
          refine ⟨_, rfl, p, dx, _, rfl, (B.same (s2.trans s')).ob, bf_no _ _ _ (by decide +kernel) (by decide +kernel) (by decide +kernel), _, rfl, p, dx, S, N, D, a, o, hs, ns, ds, rfl, B.same (s2.trans s'), ha, by omega, by omega, by omega, _, rfl, ?_⟩
          have e1 : decide (o.n = ns.getD o.p.toNat 0 ∧ o.m ≤ hs.getD o.p.toNat 0) = decide (o.m ≤ hs.getD i 0) := by rw [etn]; simp [en]
          rw [e1]
          have e2 : dueAt os ns hs i = if decide (o.m ≤ hs.getD i 0) = true then some o else none := by
            unfold dueAt
            rw [← eoo]
            rfl
          rw [List.filterMap_cons, e2, List.filterMap_nil]
          cases hd : decide (o.m ≤ hs.getD i 0) with
          | false => exact iteF ⟨_, rfl, s', by omega, by simpa using hp⟩
          | true =>
            refine iteT ⟨_, rfl, _, rfl, s', ?_, ?_⟩
            · rw [List.length_append]
              show ys.length + 1 ≤ i + 1
              omega
            · exact paired_snoc hp ⟨a, rfl, ha⟩
      · rintro ys σ' H3 ⟨v, rfl, s3, hle, hp3⟩ r hr3
        have s4 := same_upd (o := .lst ys) hr3
        have el : ys0.length = ns.length := by
          have := Paired.length hp2
          rwa [List.length_map, List.length_range] at this
        rw [el] at hp3
        exact k r ys _ ((s2.trans s3).free hr3) ((s2.trans s3).trans s4) upd_same (ords_same s4 hp3)
/-! ### settled, always the first that is due -/
theorem setH_step (hs : List Int) (o : O) : setH hs o = step hs o := rfl
theorem setN_next (ns : List Int) (o : O) : setN ns o = nextN ns o := rfl
inductive LR (os : List O) : List Int → List Int → List O → List Int → List Int → Prop
  | nil {hs ns} : dueO os ns hs = [] → LR os hs ns [] hs ns
  | cons {hs ns o r L hs' ns'} : dueO os ns hs = o :: r → LR os (setH hs o) (setN ns o) L hs' ns' → LR os hs ns (o :: L) hs' ns'
theorem LR.det {os : List O} {hs ns L h n} (a : LR os hs ns L h n) : ∀ {L' h' n'}, LR os hs ns L' h' n' → L = L' ∧ h = h' ∧ n = n' := by
  induction a with
  | nil e =>
    intro L' h' n' b
    cases b with
    | nil => exact ⟨rfl, rfl, rfl⟩
    | cons e' _ => rw [e] at e'; cases e'
  | cons e _ ih =>
    intro L' h' n' b
    cases b with
    | nil e' => rw [e] at e'; cases e'
    | cons e' b' =>
      rw [e] at e'
      cases e'
      obtain ⟨rfl, rfl, rfl⟩ := ih b'
      exact ⟨rfl, rfl, rfl⟩
theorem find_of {os : List O} {q : Nat} (P : Places os q) {o : O} (h : o ∈ os) : findO os o.p o.n = some o := by
  unfold findO
  cases e : os.find? fun u => decide (u.p = o.p ∧ u.n = o.n) with
  | none =>
    have := List.find?_eq_none.mp e o h
    simp at this
  | some u =>
    have h1 := List.mem_of_find?_eq_some e
    have h2 : decide (u.p = o.p ∧ u.n = o.n) = true := List.find?_some (p := fun u : O => decide (u.p = o.p ∧ u.n = o.n)) e
    have h3 := of_decide_eq_true h2
    rw [P.inj u h1 o h h3.1 h3.2]
theorem mem_due {os : List O} {q : Nat} (P : Places os q) {hs ns : List Int} (ln : ns.length = q) {o : O} : o ∈ dueO os ns hs ↔ o ∈ os ∧ ableO hs ns o = true := by
  unfold dueO
  rw [List.mem_filterMap]
  constructor
  · rintro ⟨i, hi, e⟩
    unfold dueAt at e
    rw [Option.filter_eq_some_iff] at e
    obtain ⟨e1, e2⟩ := e
    obtain ⟨h1, h2, h3⟩ := find_is e1
    refine ⟨h1, ?_⟩
    have : o.p.toNat = i := by omega
    unfold ableO
    rw [this]
    have e2' := of_decide_eq_true e2
    exact decide_eq_true ⟨h3, e2'⟩
  · rintro ⟨h1, h2⟩
    obtain ⟨b1, _, _, _, _, b6⟩ := P.rng h1
    unfold ableO at h2
    obtain ⟨e1, e2⟩ := of_decide_eq_true h2
    refine ⟨o.p.toNat, List.mem_range.mpr (by omega), ?_⟩
    unfold dueAt
    rw [show ((o.p.toNat : Nat) : Int) = o.p by omega, ← e1, find_of P h1]
    show (if decide (o.m ≤ hs.getD o.p.toNat 0) = true then some o else none) = some o
    rw [if_pos (decide_eq_true e2)]
theorem due_up (os : List O) (ns hs : List Int) : (dueO os ns hs).Pairwise (fun a b => a.p < b.p) := by
  unfold dueO
  rw [List.pairwise_filterMap]
  refine List.pairwise_lt_range.imp fun {i j} hij a ha b hb => ?_
  unfold dueAt at ha hb
  rw [Option.filter_eq_some_iff] at ha hb
  obtain ⟨_, h2, _⟩ := find_is ha.1
  obtain ⟨_, h4, _⟩ := find_is hb.1
  omega
def ordI (o : O) : List Int := [o.p, o.n, o.g, o.m]
theorem ordI_inj {o u : O} (h : ordI o = ordI u) : o = u := by
  obtain ⟨_, _, _, _⟩ := o
  obtain ⟨_, _, _, _⟩ := u
  simpa [ordI] using h
def lexO (a b : O) : Prop := HT.lexLt (ordI a) (ordI b) = true
theorem lex_p {a b : O} (h : a.p < b.p) : lexO a b := by
  unfold lexO ordI
  rw [HT.lexLt_cons, if_neg (by omega)]
  exact decide_eq_true h
theorem lex_le {a b : O} (h : lexO a b) : a.p ≤ b.p := by
  unfold lexO ordI at h
  rw [HT.lexLt_cons] at h
  by_cases e : a.p = b.p
  · omega
  · rw [if_neg e] at h
    have := of_decide_eq_true h
    omega
theorem Runs.snoc {os : List O} {h0 n0 L hs ns} (r : Runs os h0 n0 L hs ns) {o : O} (h : o ∈ os) (ha : ableO hs ns o = true) : Runs os h0 n0 (L ++ [o]) (setH hs o) (setN ns o) := by
  induction r with
  | nil => exact .cons h ha .nil
  | cons a b _ ih => exact .cons a b (ih ha)
theorem LR.runs {os : List O} {q : Nat} (P : Places os q) {hs ns L h n} (r : LR os hs ns L h n) (l1 : hs.length = q) (l2 : ns.length = q) : Runs os hs ns L h n ∧ ∀ o ∈ os, ableO h n o = false := by
  induction r with
  | nil e =>
    refine ⟨.nil, fun o ho => ?_⟩
    cases z : ableO _ _ o with
    | false => rfl
    | true =>
      have := (mem_due P l2).mpr ⟨ho, z⟩
      rw [e] at this
      cases this
  | @cons hs ns o r L h n e _ ih =>
    have hm : o ∈ dueO os ns hs := by rw [e]; simp
    obtain ⟨m1, m2⟩ := (mem_due P l2).mp hm
    obtain ⟨r', st⟩ := ih (by rw [setH_step, step_length]; exact l1) (by rw [setN_next, nextN_length]; exact l2)
    exact ⟨.cons m1 m2 r', st⟩
/-- the orders that are not yet behind -/
def leftN (os : List O) (ns : List Int) : Nat := (os.filter fun o => decide (ns.getD o.p.toNat 0 ≤ o.n)).length
theorem filter_le {α : Type} {f g : α → Bool} : ∀ {l : List α}, (∀ y ∈ l, f y = true → g y = true) → (l.filter f).length ≤ (l.filter g).length
  | [], _ => Nat.le_refl _
  | y :: l, hs => by
    have ih := filter_le (f := f) (g := g) (l := l) fun z hz => hs z (by simp [hz])
    have hy := hs y (by simp)
    cases e : f y with
    | true =>
      rw [List.filter_cons_of_pos e, List.filter_cons_of_pos (hy e), List.length_cons, List.length_cons]
      omega
    | false =>
      rw [List.filter_cons_of_neg (by rw [e]; decide)]
      cases e2 : g y with
      | true => rw [List.filter_cons_of_pos e2, List.length_cons]; omega
      | false => rw [List.filter_cons_of_neg (by rw [e2]; decide)]; exact ih
theorem filter_lt {α : Type} {f g : α → Bool} : ∀ {l : List α} {x : α}, x ∈ l → f x = false → g x = true → (∀ y ∈ l, f y = true → g y = true) → (l.filter f).length < (l.filter g).length
  | y :: l, x, hx, h1, h2, hs => by
    have hs' : ∀ z ∈ l, f z = true → g z = true := fun z hz => hs z (by simp [hz])
    have le := filter_le hs'
    rcases List.mem_cons.mp hx with rfl | hx
    · rw [List.filter_cons_of_neg (by rw [h1]; decide), List.filter_cons_of_pos h2, List.length_cons]
      omega
    · have ih := filter_lt hx h1 h2 hs'
      have hy := hs y (by simp)
      cases e : f y with
      | true =>
        rw [List.filter_cons_of_pos e, List.filter_cons_of_pos (hy e), List.length_cons, List.length_cons]
        omega
      | false =>
        rw [List.filter_cons_of_neg (by rw [e]; decide)]
        cases e2 : g y with
        | true => rw [List.filter_cons_of_pos e2, List.length_cons]; omega
        | false => rw [List.filter_cons_of_neg (by rw [e2]; decide)]; exact ih
theorem left_less {os : List O} {q : Nat} (P : Places os q) {hs ns : List Int} (ln : ns.length = q) {o : O} (h : o ∈ os) (ha : ableO hs ns o = true) : leftN os (setN ns o) < leftN os ns := by
  obtain ⟨b1, _⟩ := P.rng h
  obtain ⟨e1, _⟩ := of_decide_eq_true ha
  unfold leftN
  have g : ∀ i, (setN ns o).getD i 0 = ns.getD i 0 + if o.p.toNat = i then 1 else 0 := fun i => addAt_getD _ _ _ _ (by omega)
  refine filter_lt h ?_ ?_ fun y _ hy => ?_
  · rw [g, if_pos rfl]
    exact decide_eq_false (by omega)
  · exact decide_eq_true (by omega)
  · rw [g] at hy
    have := of_decide_eq_true hy
    refine decide_eq_true ?_
    split at this <;> omega
theorem left_all {os : List O} {ns : List Int} : leftN os ns ≤ os.length := List.length_filter_le ..
/-- settled is what is behind -/
theorem Runs.past {os : List O} {q : Nat} (P : Places os q) {b L h n} (r : Runs os b (List.replicate q 0) L h n) (lb : b.length = q) {o : O} (ho : o ∈ os) : o ∈ L ↔ o.n < n.getD o.p.toNat 0 := by
  have lz : (List.replicate q (0 : Int)).length = q := List.length_replicate
  obtain ⟨_, _, _, sn⟩ := r.state P lb lz
  obtain ⟨a1, _, a3⟩ := r.nums P lb lz
  obtain ⟨b1, _, _, _, b5, b6⟩ := P.rng ho
  have z : ∀ i, (List.replicate q (0 : Int)).getD i 0 = 0 := fun i => by
    rw [List.getD_eq_getElem?_getD]
    by_cases hi : i < q
    · simp [List.getElem?_replicate, hi]
    · simp [List.getElem?_replicate, hi]
  constructor
  · intro h
    have := a1 o h
    rw [sn]
    omega
  · intro h
    rw [sn, z] at h
    obtain ⟨u, hu, e1, e2⟩ := a3 o.p.toNat o.n (by rw [z]; exact b5) (by rw [z]; exact h)
    have hu' := r.mem u hu
    obtain ⟨_, _, _, _, _, c6⟩ := P.rng hu'
    rw [P.inj o ho u hu' (by omega) e2.symm]
    exact hu
/-- can the orders be settled in this row? -/
def rowOk : List Int → List Int → List O → Bool
  | _, _, [] => true
  | hs, ns, o :: r => ableO hs ns o && rowOk (setH hs o) (setN ns o) r
theorem Runs.rowOk {os : List O} {hs ns L h n} (r : Runs os hs ns L h n) : M.rowOk hs ns L = true := by
  induction r with
  | nil => rfl
  | cons _ a _ ih => rw [M.rowOk, a]; exact ih
/-- sums and orders as they are wanted -/
structure Good (os : List O) (ss : List Int) : Prop where
  two : 2 ≤ ss.length
  eight : ss.length ≤ 8
  rng : ∀ z ∈ ss, 0 ≤ z ∧ z ≤ 1000
  few : os.length ≤ 50
  ord : os.all (isOrd ss.length) = true
  nd : (os.map fun o : O => (o.p, o.n)).Nodup
theorem nodup_inj {os : List O} (h : (os.map fun o : O => (o.p, o.n)).Nodup) : ∀ o ∈ os, ∀ u ∈ os, o.p = u.p → o.n = u.n → o = u := by
  induction os with
  | nil => intro o ho; cases ho
  | cons a os ih =>
    rw [List.map_cons, List.nodup_cons] at h
    intro o ho u hu e1 e2
    rcases List.mem_cons.mp ho with e3 | h3 <;> rcases List.mem_cons.mp hu with e4 | h4
    · rw [e3, e4]
    · subst e3
      exact absurd (List.mem_map.mpr ⟨u, h4, by rw [e1, e2]⟩) h.1
    · subst e4
      exact absurd (List.mem_map.mpr ⟨o, h3, show (o.p, o.n) = (u.p, u.n) by rw [e1, e2]⟩) h.1
    · exact ih h.2 o h3 u h4 e1 e2
theorem Good.places {os : List O} {ss : List Int} (g : Good os ss) : Places os ss.length := ⟨fun o ho => List.all_eq_true.mp g.ord o ho, nodup_inj g.nd⟩
theorem Good.sums {os : List O} {ss : List Int} (g : Good os ss) {H : Hp} {ya : Addr} (h : H ya = some (.lst (ss.map V.int))) : SumIs H ss.length (.ref ya) true := by
  refine .inr (.inr ⟨ya, _, rfl, h, ?_, fun z hz => ?_, ?_, fun _ => by rw [List.length_map]⟩)
  · rw [List.length_map]
    have := g.eight
    omega
  · obtain ⟨i, _, rfl⟩ := List.mem_map.mp hz
    rfl
  · unfold sumOk
    rw [List.length_map, decide_eq_true ⟨g.two, g.eight⟩, Bool.true_and]
    refine (List.all_eq_true.mpr fun z hz => ?_).symm
    obtain ⟨i, hi, rfl⟩ := List.mem_map.mp hz
    have := g.rng i hi
    exact decide_eq_true (by omega)
theorem Good.aud {os : List O} {ss : List Int} (g : Good os ss) {H : Hp} {a : Addr} {xs : List V} (h : H a = some (.lst xs)) (ho : OrdsAt H xs os) : AudIs H ss.length (.ref a) true := by
  refine .inr (.inr (.inr (.inr ⟨a, xs, os, rfl, h, ?_, ho, g.ord, (decide_eq_true g.nd).symm⟩)))
  have := Paired.length ho
  have := g.few
  omega
/-- some of the orders, in any row -/
theorem Good.sub {os L : List O} {ss : List Int} (g : Good os ss) (hm : ∀ o ∈ L, o ∈ os) (nd : L.Nodup) : Good L ss := by
  have hl : L.length ≤ os.length := by
    obtain ⟨R, hR⟩ := split_sub nd hm
    have := hR.length_eq
    rw [List.length_append] at this
    omega
  have inj := nodup_inj g.nd
  refine ⟨g.two, g.eight, g.rng, Nat.le_trans hl g.few, List.all_eq_true.mpr fun o ho => List.all_eq_true.mp g.ord o (hm o ho), ?_⟩
  clear hl
  induction L with
  | nil => exact .nil
  | cons a L ih =>
    rw [List.nodup_cons] at nd
    rw [List.map_cons, List.nodup_cons]
    refine ⟨fun h => ?_, ih (fun o ho => hm o (by simp [ho])) nd.2⟩
    obtain ⟨u, hu, e⟩ := List.mem_map.mp h
    have e' := Prod.mk.inj e
    exact nd.1 (inj a (hm a (by simp)) u (hm u (by simp [hu])) e'.1.symm e'.2.symm ▸ hu)
theorem Good.nodup {os : List O} {ss : List Int} (g : Good os ss) : os.Nodup := (List.pairwise_map.mp g.nd).imp fun h e => h (by rw [e])
theorem lexO_asy {a b : O} (h : lexO a b) : ¬ lexO b a := fun z => by
  have := L2.lex_asy h
  rw [show HT.lexLt (ordI b) (ordI a) = true from z] at this
  cases this
theorem sorted_one {A B : List O} (h : A.Perm B) (hA : A.Pairwise lexO) (hB : B.Pairwise lexO) : A = B := List.Perm.eq_of_pairwise (fun a b _ _ h1 h2 => absurd h2 (lexO_asy h1)) hA hB h
theorem ords_tups {H : Hp} {K : PySem.W.Frag} {xs : List V} {os : List O} (h : OrdsAt H xs os) : TupsAt K H xs (os.map ordI) := by
  induction h with
  | nil => exact .nil
  | cons a _ ih =>
    obtain ⟨c, rfl, hc⟩ := a
    exact .cons ⟨c, rfl, SqT.of hc⟩ ih
theorem places_all {H : Hp} {xs : List V} {os : List O} (h : OrdsAt H xs os) (hn : (os.map fun o : O => (o.p, o.n)).Nodup) : foldP (pairsOf os xs) = pairsOf os xs := (foldP_nd _).1 (by rw [pairs_keys h, keys_nd]; exact hn)
theorem sorted_back {H : Hp} {vs : List V} {F : List O} {ix : List Nat} (h : OrdsAt H vs F) (hix : ix.Perm (List.range vs.length)) :
    ∃ F', F'.Perm F ∧ OrdsAt H (ix.map fun i => vs.getD i .non) F' ∧ ix.map (fun i => (F.map ordI).getD i []) = F'.map ordI := by
  have hl : vs.length = F.length := Paired.length h
  have hm : ∀ i ∈ ix, i < vs.length := fun i hi => List.mem_range.mp (hix.mem_iff.mp hi)
  refine ⟨ix.map fun i => F.getD i g1, ?_, paired_pick h hm, ?_⟩
  · refine (hix.map _).trans ?_
    rw [hl, range_getD]
  · rw [List.map_map]
    refine List.map_congr_left fun i hi => ?_
    have := hm i hi
    have hi' : i < F.length := by omega
    simp [List.getD_eq_getElem?_getD, hi']
theorem lex_map {L : List O} (h : (L.map ordI).Pairwise (fun a b => HT.lexLt a b = true)) : L.Pairwise lexO := by
  rw [List.pairwise_map] at h
  exact h
theorem ordI_nd {L : List O} (h : L.Nodup) : (L.map ordI).Nodup := List.pairwise_map.mpr (h.imp fun hne e => hne (ordI_inj e))
theorem ordI_ne {L : List O} : ∀ t ∈ L.map ordI, t ≠ [] := fun t ht => by
  obtain ⟨o, _, rfl⟩ := List.mem_map.mp ht
  intro z
  cases z
/-! ### the audits -/
abbrev zer (ss : List Int) : List Int := List.replicate ss.length 0
def sp_gbook (t : Ad) : Sp := fun vs H Q _ => ∃ a ya xs os ss, vs = [.ref a, .ref ya] ∧ H a = some (.lst xs) ∧ OrdsAt H xs os ∧ H ya = some (.lst (ss.map V.int)) ∧ Good os ss ∧
  ∀ p dx S N D hs ns ds L H', H p = none → H D = none → Same H H' → BookAt t H' p dx S N D hs ns ds → OrdsAt H' ds L → LR os ss (zer ss) L hs ns → Q (.ref p) H'
theorem due_min {os : List O} {ns hs : List Int} {o : O} {r : List O} (h : dueO os ns hs = o :: r) : ((o :: r).map ordI).Pairwise (fun a b => HT.lexLt b a = false) := by
  rw [← h, List.pairwise_map]
  exact (due_up os ns hs).imp fun {a b} hab => L2.lex_asy (lex_p hab)
theorem ok_book_of (T : Txt K mg t) : FnOk P w K mg base (CX1 P w) 7 t.f_book_of t.d_book_of ["orders", "sums"] (sp_gbook t) := by
  refine T.F_book_of.okX sc_book_of (fun vs H Q E h => ?_) (fun cdv A outer s H vs Q E hr h => ?_)
  · obtain ⟨a, ya, xs, os, ss, rfl, _⟩ := h
    rfl
  · obtain ⟨a, ya, xs, os, ss, rfl, ha, ho, hya, G, k3⟩ := h
    refine ⟨_, (@pss_cons _ _ _ _ _ (ps_expr (pe_callK (ok_check_orders T) (hr.mono (by decide)) rfl T.m_check_orders T.F_check_orders.kp T.bk0_check_orders pass1 (pa_more (pv 0) pa_nil) (pk_cons (pv 1) pk_nil)))
      (@pss_cons _ _ _ _ _ (ps_set (i := 2) sc_book_of.nd rfl (Or.inl rfl) (pe_call (ok_by_place T) (hr.mono (by decide)) rfl T.m_by_place T.F_by_place.kp T.b_by_place .nil pass0 (pa_more (pv 0) pa_nil)))
      (@pss_cons _ _ _ _ _ (ps_set (i := 3) sc_book_of.nd rfl (Or.inl rfl) (pe_make T.mk_Book (ok_Book___init__ T) (hr.mono (by decide)) rfl T.m_Book T.b_Book___init__ .nil pass0 (pa_more (pv 1) pa_nil)))
      (@pss_cons _ _ _ _ _ (ps_set (i := 4) sc_book_of.nd rfl (Or.inl rfl) (pe_call (ok_due_orders T) (hr.mono (by decide)) rfl T.m_due_orders T.F_due_orders.kp T.b_due_orders .nil pass0 (@pa_2 _ _ _ _ _ (pv 2) (pv 3) rfl rfl)))
      (@pss_cons _ _ _ _ _ (ps_while passesL (pt_truth (pv 4) (fun _ => rfl)) (@pss_cons _ _ _ _ _ (ps_expr (pe_meth (pv 3) T.cl_Book T.mt_Book_settle (ok_Book_settle T) (hr.mono (by decide)) T.b_Book_settle .nil pass0 (pa_more (pe_callB (call_minT rfl (lt2 hr.units)) rfl T.n_min boot_min (pa_more (pv 4) pa_nil)) pa_nil)))
      (@pss_one _ _ _ (ps_set (i := 4) sc_book_of.nd rfl (Or.inl rfl) (pe_call (ok_due_orders T) (hr.mono (by decide)) rfl T.m_due_orders T.F_due_orders.kp T.b_due_orders .nil pass0 (@pa_2 _ _ _ _ _ (pv 2) (pv 3) rfl rfl))))))
      (@pss_one _ _ _ (ps_ret (pv 3)))))))), ?_⟩
    refine ⟨_, rfl, _, rfl, _, _, _, true, true, rfl, G.sums hya, G.aud ha ho, (fun z => by cases z), (fun _ z => by cases z), fun eb ec H1 s1 => ?_⟩
    have PL := G.places
    have lx : xs.length = os.length := Paired.length ho
    have fw := G.few
    have l8 := G.eight
    have h8 : os.all (isOrd 8) = true := List.all_eq_true.mpr fun o ho' => isOrd_mono (List.all_eq_true.mp G.ord o ho') (by omega)
    refine ⟨_, rfl, a, xs, os, rfl, s1 _ _ ha, by omega, ords_same s1 ho, h8, fun C H2 nC s2 hC => ?_⟩
    rw [places_all (ords_same s1 ho) G.nd] at hC
    have s12 := s1.trans s2
    have nC0 : H C = none := s1.free nC
    refine ⟨_, rfl, fun p dx np ndx nex => ?_⟩
    have s3 : Same H2 (upd (upd H2 dx (.own p)) p (.ins t.a_Book dx [])) := fun b o e => by
      rw [upd_ne (ne_of_none e np), upd_ne (ne_of_none e ndx)]
      exact e
    refine ⟨p, dx, ya, ss, rfl, upd_same, s3 _ _ (s12 _ _ hya), l8, fun S N D H4 nS nN nD B keep => ⟨rfl, ?_⟩⟩
    have s4 : Same H2 H4 := fun b o e => keep b o (s3 _ _ e) (ne_of_none e np)
    have s14 := s12.trans s4
    have np0 : H p = none := s12.free np
    have nS0 : H S = none := s12.free (s3.free nS)
    have nN0 : H N = none := s12.free (s3.free nN)
    have nD0 : H D = none := s12.free (s3.free nD)
    have hC4 := s4 _ _ hC
    have lz : (zer ss).length = ss.length := List.length_replicate
    refine ⟨_, rfl, _, rfl, C, p, dx, S, N, D, xs, os, ss, _, _, rfl, hC4, ords_same s14 ho, (by rw [lz]; exact G.ord), B, lz.symm, (by rw [List.length_replicate]; omega), fun r ys H5 nr s5 hr5 hys => ?_⟩
    refine ⟨fun m σ H' => ∃ r ys hs ns ds L, σ = [some (.ref a), some (.ref ya), some (.ref C), some (.ref p), some (.ref r)] ∧ Same H H' ∧ BookAt t H' p dx S N D hs ns ds ∧ H' C = some (.dT (pairsOf os xs)) ∧ H' r = some (.lst ys) ∧ OrdsAt H' ys (dueO os ns hs) ∧ OrdsAt H' ds L ∧
        hs.length = ss.length ∧ ns.length = ss.length ∧ L.length + leftN os ns ≤ os.length ∧ m = leftN os ns ∧ (∀ M h n, LR os hs ns M h n → LR os ss (zer ss) (L ++ M) h n),
      ⟨_, r, ys, ss, _, [], [], rfl, s14.trans s5, B.same s5, s5 _ _ hC4, hr5, hys, .nil, rfl, lz, (by have := left_all (os := os) (ns := List.replicate ss.length 0); show 0 + _ ≤ _; omega), rfl, fun M h n z => z⟩, ?_⟩
    rintro m σ H' ⟨r, ys, hs, ns, ds, L, rfl, s', B', hC', hr', hys', hds, lh, ln, lL, rfl, cont⟩
    refine ⟨_, rfl, !ys.isEmpty, .inl ⟨_, SqL.of hr', rfl⟩, ?_⟩
    cases ed : dueO os ns hs with
    | cons o rest =>
      rw [ed] at hys'
      have hup := due_min ed
      have htu := ords_tups (K := K) hys'
      cases hys' with
      | @cons z _ zs _ hz hrest =>
      have om : o ∈ dueO os ns hs := by rw [ed]; simp
      obtain ⟨m1, m2⟩ := (mem_due PL ln).mp om
      have less := left_less PL ln m1 m2
      refine iteT ?_
      refine ⟨_, fun σ' H'' w => ⟨leftN os (setN ns o), less, w⟩, ?_⟩
      have ldl : ds.length = L.length := Paired.length hds
      refine ⟨_, rfl, p, dx, _, rfl, B'.ob, bf_no _ _ _ (by decide +kernel) (by decide +kernel) (by decide +kernel), _, rfl, r, _, z, _, rfl, SqL.of hr', htu, hup, p, dx, S, N, D, z, o, hs, ns, ds, rfl, B', hz, (by rw [ln]; exact PL.ord o m1), by omega, by omega, fun H6 B6 keep6 => ?_⟩
      have s6 : Same H H6 := fun b u e => keep6 b u (s' _ _ e) (ne_of_none e nS0) (ne_of_none e nN0) (ne_of_none e nD0)
      have ord6 : ∀ {x u}, OrdAt H' x u → OrdAt H6 x u := fun {x u} ⟨c, e, hc⟩ => ⟨c, e, keep6 _ _ hc (ne_of hc B'.held (by intro z; cases z)) (ne_of hc B'.next (by intro z; cases z)) (ne_of hc B'.done (by intro z; cases z))⟩
      have hC6 := keep6 _ _ hC' (ne_of hC' B'.held (by intro z; cases z)) (ne_of hC' B'.next (by intro z; cases z)) (ne_of hC' B'.done (by intro z; cases z))
      have lh' : (setH hs o).length = ss.length := by rw [setH_step, step_length]; exact lh
      have ln' : (setN ns o).length = ss.length := by rw [setN_next, nextN_length]; exact ln
      refine ⟨_, rfl, _, rfl, C, p, dx, S, N, D, xs, os, _, _, _, rfl, hC6, ords_same s6 ho, (by rw [ln']; exact G.ord), B6, by omega, by omega, fun r' ys'' H7 nr' s7 hr7 hys7 => ?_⟩
      refine ⟨r', ys'', _, _, _, L ++ [o], rfl, s6.trans s7, B6.same s7, s7 _ _ hC6, hr7, hys7, ?_, lh', ln', ?_, rfl, fun M h n z => ?_⟩
      · exact paired_snoc (Paired.mapP hds fun _ _ z => OrdAt.same s7 (ord6 z)) (OrdAt.same s7 (ord6 hz))
      · rw [List.length_append]
        show L.length + 1 + _ ≤ _
        omega
      · rw [List.append_assoc]
        exact cont _ _ _ (.cons ed z)
    | nil =>
      rw [ed] at hys'
      cases hys'
      refine iteF ?_
      have := cont _ _ _ (.nil ed)
      rw [List.append_nil] at this
      exact ⟨_, rfl, k3 p dx S N D hs ns ds L H' np0 nD0 s' B' hds this⟩
def notPast (ns : List Int) (o : O) : Bool := !decide (o.n < ns.getD o.p.toNat 0)
def sp_gleft (t : Ad) : Sp := fun vs H Q _ => ∃ p dx S N D a xs os hs ns ds, vs = [.ref p, .ref a] ∧ BookAt t H p dx S N D hs ns ds ∧ H a = some (.lst xs) ∧ OrdsAt H xs os ∧ os.length ≤ 50 ∧ os.Nodup ∧ (∀ o ∈ os, 0 ≤ o.p ∧ o.p.toNat < ns.length) ∧
  ∀ r ys Lf H', H r = none → Same H H' → H' r = some (.lst ys) → OrdsAt H' ys Lf → Lf.Perm (os.filter (notPast ns)) → Lf.Pairwise lexO → Q (.ref r) H'
theorem take_filter {α : Type} {f : α → Bool} {l : List α} {i : Nat} {x : α} (h : l[i]? = some x) : (l.take (i + 1)).filter f = (l.take i).filter f ++ if f x = true then [x] else [] := by
  rw [take_snoc h, List.filter_append]
  congr 1
  cases e : f x with
  | true => simp [e]
  | false => simp [e]
theorem ok_left_in (T : Txt K mg t) : FnOk P w K mg base CX0 2 t.f_left_in t.d_left_in ["book", "orders"] (sp_gleft t) := by
  refine T.F_left_in.ok sc_left_in (fun vs H Q E h => ?_) (fun cdv A outer s H vs Q E hr h => ?_)
  · obtain ⟨p, dx, S, N, D, a, xs, os, hs, ns, ds, rfl, _⟩ := h
    rfl
  · obtain ⟨p, dx, S, N, D, a, xs, os, hs, ns, ds, rfl, B, ha, ho, fw, nd, hp, k⟩ := h
    have hl : xs.length = os.length := Paired.length ho
    refine ⟨_, (@pss_one _ _ _ (ps_ret (pe_callB call_sortedTX rfl T.n_sorted boot_sorted (pa_more (pe_lcomp (N' := ["order", "book"]) (ix := [none, some 0]) (compOk_is (by kernel_rfl)) rfl (@pi_list _ _ _ _ (pv 1)) (fun _ _ _ _ => (pg_name (i := 0) nd_5 rfl (Or.inl rfl) (.inr rfl))) (fun _ _ _ _ => (pif_one (pt_not (pt_val (pe_meth (pv 1) T.cl_Book T.mt_Book_is_past (ok_Book_is_past T) (hr.mono (by decide)) T.b_Book_is_past .nil pass0 (pa_more (pv 0) pa_nil)))))) (fun _ _ _ _ => (pv 0))) pa_nil)))), ?_⟩
    refine ⟨_, rfl, a, rfl, ⟨_, SqL.of ha⟩, lc_list (K := K) (a := a) (xs := xs) (fun i ys σ' H' => ∃ v, σ' = [v, some (.ref p)] ∧ H' = H ∧ OrdsAt H ys ((os.take i).filter (notPast ns))) ⟨none, rfl, rfl, .nil⟩ ?_ ?_ ?_⟩
    · rintro i ys σ' H' hi ⟨v, rfl, rfl, hy⟩
      refine ⟨SqL.of ha, len1000 ?_⟩
      have h1 := Paired.length hy
      have h2 := List.length_filter_le (notPast ns) (os.take i)
      rw [List.length_take] at h2
      omega
    · rintro i x ys σ' H' hx ⟨v, rfl, rfl, hy⟩
      obtain ⟨o, eo, c, rfl, hc⟩ := ords_get ho hx
      obtain ⟨p0, p1⟩ := hp o (List.mem_of_getElem? eo)
      refine ⟨_, rfl, p, dx, _, rfl, B.ob, bf_no _ _ _ (by decide +kernel) (by decide +kernel) (by decide +kernel), _, rfl, p, dx, S, N, D, c, o, hs, ns, ds, rfl, B, hc, p0, p1, _, rfl, ?_⟩
      cases hd : decide (o.n < ns.getD o.p.toNat 0) with
      | true =>
        refine iteF ⟨_, rfl, rfl, ?_⟩
        have : notPast ns o = false := by unfold notPast; rw [hd]; rfl
        rw [take_filter eo, this]
        simpa using hy
      | false =>
        refine iteT ⟨_, rfl, _, rfl, rfl, ?_⟩
        have : notPast ns o = true := by unfold notPast; rw [hd]; rfl
        rw [take_filter eo, this]
        exact paired_snoc hy ⟨c, rfl, hc⟩
    · rintro ys σ' H' ⟨v, rfl, rfl, hy⟩ L hL
      rw [hl, List.take_length] at hy
      have sL := same_upd (o := .lst ys) hL
      have hy' := ords_same sL hy
      have h1 := Paired.length hy
      have h2 := List.length_filter_le (notPast ns) os
      have nd' : (os.filter (notPast ns)).Nodup := nd.filter _
      refine ⟨L, ys, _, rfl, SqL.of upd_same, ords_tups hy', by omega, ordI_nd nd', ordI_ne, fun r vs' ts' ix hr' hix ev et p1 p2 _ up => ?_⟩
      obtain ⟨Lf, q1, q2, q3⟩ := sorted_back hy' hix
      rw [et, q3] at up
      rw [ev] at *
      exact k r _ Lf _ (sL.free hr') (sL.trans (same_upd hr')) upd_same (ords_same (same_upd hr') q2) q1 (lex_map up)
def sp_grow (t : Ad) : Sp := fun vs H Q _ => ∃ a ya xs os ss, vs = [.ref a, .ref ya] ∧ H a = some (.lst xs) ∧ OrdsAt H xs os ∧ H ya = some (.lst (ss.map V.int)) ∧ Good os ss ∧
  ∀ D ds L hs ns H', H D = none → Same H H' → H' D = some (.lst ds) → OrdsAt H' ds L → LR os ss (zer ss) L hs ns → Q (.ref D) H'
theorem ok_row_for (T : Txt K mg t) : FnOk P w K mg base (CX1 P w) 8 t.f_row_for t.d_row_for ["orders", "sums"] (sp_grow t) := by
  refine T.F_row_for.okX sc_row_for (fun vs H Q E h => ?_) (fun cdv A outer s H vs Q E hr h => ?_)
  · obtain ⟨a, ya, xs, os, ss, rfl, _⟩ := h
    rfl
  · obtain ⟨a, ya, xs, os, ss, rfl, ha, ho, hya, G, k⟩ := h
    refine ⟨_, (@pss_one _ _ _ (ps_ret (pe_fld (pe_callK (ok_book_of T) (hr.mono (by decide)) rfl T.m_book_of T.F_book_of.kp T.bk0_book_of pass1 (pa_more (pv 0) pa_nil) (pk_cons (pv 1) pk_nil)) rfl))), ?_⟩
    refine ⟨_, rfl, _, rfl, a, ya, xs, os, ss, rfl, ha, ho, hya, G, fun p dx S N D hs ns ds L H' np nD s' B hd lr => ?_⟩
    exact ⟨p, _, dx, _, _, rfl, B.ob, T.cl_Book, T.na_Book_done, bf_done _ _ _, k D ds L hs ns H' nD s' B.done hd lr⟩
def sp_gover (t : Ad) : Sp := fun vs H Q _ => ∃ a ya xs os ss, vs = [.ref a, .ref ya] ∧ H a = some (.lst xs) ∧ OrdsAt H xs os ∧ H ya = some (.lst (ss.map V.int)) ∧ Good os ss ∧
  ∀ r ys Lf L hs ns H', H r = none → Same H H' → H' r = some (.lst ys) → OrdsAt H' ys Lf → LR os ss (zer ss) L hs ns → Lf.Perm (os.filter (notPast ns)) → Lf.Pairwise lexO → Q (.ref r) H'
theorem LR.lens {os : List O} {ss : List Int} (g : Good os ss) {L hs ns} (r : LR os ss (zer ss) L hs ns) : hs.length = ss.length ∧ ns.length = ss.length := by
  have lz : (zer ss).length = ss.length := List.length_replicate
  obtain ⟨r', _⟩ := r.runs g.places rfl lz
  obtain ⟨a, b, _⟩ := r'.state g.places rfl lz
  exact ⟨a, b⟩
theorem ok_left_over (T : Txt K mg t) : FnOk P w K mg base (CX1 P w) 8 t.f_left_over t.d_left_over ["orders", "sums"] (sp_gover t) := by
  refine T.F_left_over.okX sc_left_over (fun vs H Q E h => ?_) (fun cdv A outer s H vs Q E hr h => ?_)
  · obtain ⟨a, ya, xs, os, ss, rfl, _⟩ := h
    rfl
  · obtain ⟨a, ya, xs, os, ss, rfl, ha, ho, hya, G, k⟩ := h
    refine ⟨_, (@pss_one _ _ _ (ps_ret (pe_call (ok_left_in T) (hr.mono (by decide)) rfl T.m_left_in T.F_left_in.kp T.b_left_in .nil pass0 (@pa_2 _ _ _ _ _ (pe_callK (ok_book_of T) (hr.mono (by decide)) rfl T.m_book_of T.F_book_of.kp T.bk0_book_of pass1 (pa_more (pv 0) pa_nil) (pk_cons (pv 1) pk_nil)) (pv 0) rfl rfl)))), ?_⟩
    refine ⟨_, rfl, _, rfl, a, ya, xs, os, ss, rfl, ha, ho, hya, G, fun p dx S N D hs ns ds L H' np nD s' B hd lr => ?_⟩
    obtain ⟨_, ln⟩ := lr.lens G
    refine ⟨_, rfl, p, dx, S, N, D, a, xs, os, hs, ns, ds, rfl, B, s' _ _ ha, ords_same s' ho, G.few, G.nodup, (fun o om => by have := G.places.rng om; omega), fun r ys Lf H'' nr s'' hr'' hy q1 q2 => ?_⟩
    exact k r ys Lf L hs ns H'' (s'.free nr) (s'.trans s'') hr'' hy lr q1 q2
def sp_gisrow (t : Ad) : Sp := fun vs H Q _ => ∃ a ya xs os ss, vs = [.ref a, .ref ya] ∧ H a = some (.lst xs) ∧ OrdsAt H xs os ∧ H ya = some (.lst (ss.map V.int)) ∧ Good os ss ∧ ∀ H', Same H H' → Q (.bl (rowOk ss (zer ss) os)) H'
theorem ok_is_row (T : Txt K mg t) : FnOk P w K mg base (CX1 P w) 8 t.f_is_row t.d_is_row ["orders", "sums"] (sp_gisrow t) := by
  refine T.F_is_row.okX sc_is_row (fun vs H Q E h => ?_) (fun cdv A outer s H vs Q E hr h => ?_)
  · obtain ⟨a, ya, xs, os, ss, rfl, _⟩ := h
    rfl
  · obtain ⟨a, ya, xs, os, ss, rfl, ha, ho, hya, G, k⟩ := h
    have PL := G.places
    have fw := G.few
    have lx : xs.length = os.length := Paired.length ho
    refine ⟨_, (@pss_cons _ _ _ _ _ (ps_expr (pe_callK (ok_check_orders T) (hr.mono (by decide)) rfl T.m_check_orders T.F_check_orders.kp T.bk0_check_orders pass1 (pa_more (pv 0) pa_nil) (pk_cons (pv 1) pk_nil)))
      (@pss_cons _ _ _ _ _ (ps_set (i := 2) sc_is_row.nd rfl (Or.inl rfl) (pe_make T.mk_Book (ok_Book___init__ T) (hr.mono (by decide)) rfl T.m_Book T.b_Book___init__ .nil pass0 (pa_more (pv 1) pa_nil)))
      (@pss_cons _ _ _ _ _ (ps_for passesL rfl (@pi_list _ _ _ _ (pv 0)) (pg_name (i := 3) sc_is_row.nd rfl (Or.inl rfl)) (@pss_cons _ _ _ _ _ (ps_if (pt_not (pt_val (pe_meth (pv 2) T.cl_Book T.mt_Book_is_due (ok_Book_is_due T) (hr.mono (by decide)) T.b_Book_is_due .nil pass0 (pa_more (pv 3) pa_nil)))) (@pss_one _ _ _ (ps_ret pe_bl)) pss_nil)
      (@pss_one _ _ _ (ps_expr (pe_meth (pv 2) T.cl_Book T.mt_Book_settle (ok_Book_settle T) (hr.mono (by decide)) T.b_Book_settle .nil pass0 (pa_more (pv 3) pa_nil))))))
      (@pss_one _ _ _ (ps_ret pe_bl))))), ?_⟩
    refine ⟨_, rfl, _, rfl, _, _, _, true, true, rfl, G.sums hya, G.aud ha ho, (fun z => by cases z), (fun _ z => by cases z), fun eb ec H2 s12 => ?_⟩
    refine ⟨_, rfl, fun p dx np ndx nex => ?_⟩
    have s3 : Same H2 (upd (upd H2 dx (.own p)) p (.ins t.a_Book dx [])) := fun b o e => by
      rw [upd_ne (ne_of_none e np), upd_ne (ne_of_none e ndx)]
      exact e
    refine ⟨p, dx, ya, ss, rfl, upd_same, s3 _ _ (s12 _ _ hya), G.eight, fun S N D H4 nS nN nD B keep => ⟨rfl, ?_⟩⟩
    have s4 : Same H2 H4 := fun b o e => keep b o (s3 _ _ e) (ne_of_none e np)
    have s14 := s12.trans s4
    have nS0 : H S = none := s12.free (s3.free nS)
    have nN0 : H N = none := s12.free (s3.free nN)
    have nD0 : H D = none := s12.free (s3.free nD)
    refine ⟨_, rfl, a, rfl, ⟨_, SqL.of (s14 _ _ ha)⟩, for_list (K := K) (a := a) (xs := xs) (fun i σ H' => ∃ v hs ns ds, σ = [some (.ref a), some (.ref ya), some (.ref p), v] ∧ Same H H' ∧ BookAt t H' p dx S N D hs ns ds ∧ ds.length = i ∧ hs.length = ss.length ∧ ns.length = ss.length ∧ rowOk ss (zer ss) os = rowOk hs ns (os.drop i))
      ⟨none, _, _, [], rfl, s14, B, rfl, rfl, List.length_replicate, rfl⟩ (fun i σ H' _ ⟨_, _, _, _, _, s', _⟩ => SqL.of (s' _ _ ha)) ?_ ?_⟩
    · rintro i x σ H' hx' ⟨v, hs, ns, ds, rfl, s', B', el, lh, ln, er⟩
      obtain ⟨o, eo, hxo⟩ := ords_get ho hx'
      have hxo' := OrdAt.same s' hxo
      obtain ⟨c', rfl, hc⟩ := id hxo'
      have om := List.mem_of_getElem? eo
      obtain ⟨b1, b2, b3, b4, b5, b6⟩ := PL.rng om
      have hi : i < os.length := (List.getElem?_eq_some_iff.mp eo).1
      have ed : os.drop i = o :: os.drop (i + 1) := by
        rw [List.drop_eq_getElem_cons hi]
        congr 1
        exact (List.getElem?_eq_some_iff.mp eo).2
      rw [ed, M.rowOk] at er
      refine ⟨_, rfl, p, dx, _, rfl, B'.ob, bf_no _ _ _ (by decide +kernel) (by decide +kernel) (by decide +kernel), _, rfl, p, dx, S, N, D, c', o, hs, ns, ds, rfl, B', hc, b6, by omega, by omega, _, rfl, ?_⟩
      have eab : ableO hs ns o = decide (o.n = ns.getD o.p.toNat 0 ∧ o.m ≤ hs.getD o.p.toNat 0) := rfl
      rw [eab] at er
      cases hab : decide (o.n = ns.getD o.p.toNat 0 ∧ o.m ≤ hs.getD o.p.toNat 0) with
      | false =>
        refine iteT ?_
        rw [hab, Bool.false_and] at er
        have := k H' s'
        rw [er] at this
        exact this
      | true =>
        rw [hab, Bool.true_and] at er
        refine iteF ?_
        refine ⟨_, rfl, p, dx, _, rfl, B'.ob, bf_no _ _ _ (by decide +kernel) (by decide +kernel) (by decide +kernel), _, rfl, p, dx, S, N, D, _, o, hs, ns, ds, rfl, B', hxo', (by rw [ln]; exact PL.ord o om), by omega, by omega, fun H6 B6 keep6 => ?_⟩
        refine ⟨_, _, _, _, rfl, fun b u e => keep6 b u (s' _ _ e) (ne_of_none e nS0) (ne_of_none e nN0) (ne_of_none e nD0), B6, ?_, (by rw [setH_step, step_length]; exact lh), (by rw [setN_next, nextN_length]; exact ln), er⟩
        rw [List.length_append, el]
        rfl
    · rintro σ H' ⟨v, hs, ns, ds, rfl, s', _, _, _, _, er⟩
      rw [lx, List.drop_length] at er
      have := k H' s'
      rw [er] at this
      exact this
/-! ### what is wanting -/
def lackW (os : List O) (hs ns : List Int) (i : Int) : V := match findO os i (ns.getD i.toNat 0) with
  | some o => .int (o.m - hs.getD i.toNat 0)
  | none => .non
def sp_glack (t : Ad) : Sp := fun vs H Q _ => ∃ i C p dx S N D xs os hs ns ds, vs = [.int i, .ref C, .ref p] ∧ 0 ≤ i ∧ i.toNat < ns.length ∧ i.toNat < hs.length ∧ Rd H C (.dT (pairsOf os xs)) ∧ OrdsAt H xs os ∧ BookAt t H p dx S N D hs ns ds ∧
  ∀ H', Same H H' → Q (lackW os hs ns i) H'
theorem ok_lack_of (T : Txt K mg t) : FnOk P w K mg base CX0 1 t.f_lack_of t.d_lack_of ["purse", "places", "book"] (sp_glack t) := by
  refine T.F_lack_of.ok sc_lack_of (fun vs H Q E h => ?_) (fun cdv A outer s H vs Q E hr h => ?_)
  · obtain ⟨i, C, p, dx, S, N, D, xs, os, hs, ns, ds, rfl, _⟩ := h
    rfl
  · obtain ⟨i, C, p, dx, S, N, D, xs, os, hs, ns, ds, rfl, i0, i1, i2, hC, ho, B, k⟩ := h
    refine ⟨_, (@pss_cons _ _ _ _ _ (ps_set (i := 3) sc_lack_of.nd rfl (Or.inl rfl) (pe_dget1 (hu_of hr) (pv 1) (@pe_tup _ _ _ _ _ (@pa_2 _ _ _ _ _ (pv 0) (pe_ix ix_list (pe_fld (pv 2) rfl) (pv 0) (fun _ _ => rfl)) rfl rfl)) ⟨rfl, rfl, rfl, rfl⟩))
      (@pss_cons _ _ _ _ _ (ps_if (pt_cmpR op_isN (pv 3) pe_non (nomark _)) (@pss_one _ _ _ (ps_ret pe_non)) pss_nil)
      (@pss_one _ _ _ (ps_ret (pe_op op_sub (pe_ix ix_tup (pv 3) pe_int (fun _ _ => rfl)) (pe_ix ix_list (pe_fld (pv 2) rfl) (pv 0) (fun _ _ => rfl))))))), ?_⟩
    refine ⟨_, rfl, C, rfl, .inr ⟨_, hC⟩, _, rfl, _, rfl, p, _, dx, _, _, rfl, B.ob, T.cl_Book, T.na_Book_next_numbers, bf_next _ _ _, _, rfl, N, _, i, _, rfl, rfl, SqL.of B.next, atI_of i0 (get_map i1), (by show 2 ≤ sizeLine; decide), fun q hq => ?_⟩
    have s1 := same_upd (o := .tup [.int i, .int (ns.getD i.toNat 0)]) hq
    have hC1 : Rd (upd H q (.tup [.int i, .int (ns.getD i.toNat 0)])) C (.dT (pairsOf os xs)) := by
      rcases hC with z | ⟨o, z⟩
      · exact .inl (s1 _ _ z)
      · exact .inr ⟨o, s1 _ _ z⟩
    refine ⟨_, .inr ⟨_, [Sum.inl i, Sum.inl (ns.getD i.toNat 0)], q, hC1, rfl, upd_same, rfl⟩, ?_⟩
    have hf := val_find i (ns.getD i.toNat 0) (ords_same s1 ho)
    have B1 := B.same s1
    generalize upd H q (.tup [.int i, .int (ns.getD i.toNat 0)]) = H1 at s1 hf B1
    generalize (valV (pairsOf os xs) [Sum.inl i, Sum.inl (ns.getD i.toNat 0)]).getD .non = v at hf
    have hk := k H1 s1
    unfold lackW at hk
    cases ef : findO os i (ns.getD i.toNat 0) with
    | none =>
      rw [ef] at hf hk
      have ev : v = .non := hf
      subst ev
      refine ⟨_, rfl, rfl, _, rfl, iteT ?_⟩
      exact hk
    | some o =>
      rw [ef] at hf hk
      obtain ⟨c, rfl, hc⟩ : OrdAt H1 v o := hf
      refine ⟨_, rfl, rfl, _, rfl, iteF ?_⟩
      refine ⟨_, rfl, c, ordV o, 3, .int o.m, rfl, rfl, SqT.of hc, rfl, _, rfl, p, _, dx, _, _, rfl, B1.ob, T.cl_Book, T.na_Book_held, bf_held _ _ _, _, rfl, S, _, i, _, rfl, rfl, SqL.of B1.held, atI_of i0 (get_map i2), _, _, rfl, rfl, ?_⟩
      exact hk
def WantAt (os : List O) (hs ns : List Int) (H : Hp) (kv : Key × V) (i : Int) : Prop := kv.1 = Sum.inl i ∧ ∃ q, kv.2 = .ref q ∧ H q = some (.tup [.int (ns.getD i.toNat 0), lackW os hs ns i])
def insK (ks : List Int) (p : Int) : List Int := if p ∈ ks then ks else ks ++ [p]
theorem want_put {os : List O} {hs ns : List Int} {H : Hp} {p : Int} {v : V} : ∀ {l : List (Key × V)} {ks : List Int}, Paired (WantAt os hs ns H) l ks → WantAt os hs ns H (Sum.inl p, v) p → Paired (WantAt os hs ns H) (putK l (Sum.inl p) v) (insK ks p) := by
  have key : ∀ {l : List (Key × V)} {ks : List Int}, Paired (WantAt os hs ns H) l ks → WantAt os hs ns H (Sum.inl p, v) p → Paired (WantAt os hs ns H) (l.map fun kv => if kv.1 = Sum.inl p then (kv.1, v) else kv) ks ∧ ((l.any fun kv => decide (kv.1 = Sum.inl p)) = decide (p ∈ ks)) := by
    intro l ks h hv
    induction h with
    | nil => exact ⟨.nil, rfl⟩
    | @cons kv k l ks a r ih =>
      obtain ⟨i1, i2⟩ := ih
      constructor
      · refine .cons ?_ i1
        show WantAt os hs ns H (if kv.1 = Sum.inl p then (kv.1, v) else kv) k
        by_cases e : kv.1 = Sum.inl p
        · rw [if_pos e]
          have ek : k = p := Sum.inl.inj (a.1.symm.trans e)
          subst ek
          exact ⟨e, hv.2⟩
        · rw [if_neg e]
          exact a
      · rw [List.any_cons, i2, a.1]
        by_cases e : k = p
        · simp [e]
        · have e' : ¬ p = k := fun z => e z.symm
          simp [e, e']
  intro l ks h hv
  obtain ⟨i1, i2⟩ := key h hv
  unfold putK insK
  rw [i2]
  by_cases e : p ∈ ks
  · rw [if_pos (decide_eq_true e), if_pos e]
    exact i1
  · rw [if_neg (by simp [e]), if_neg e]
    exact paired_snoc h hv
def sp_gwant (t : Ad) : Sp := fun vs H Q _ => ∃ a ya xs os ss, vs = [.ref a, .ref ya] ∧ H a = some (.lst xs) ∧ OrdsAt H xs os ∧ H ya = some (.lst (ss.map V.int)) ∧ Good os ss ∧
  ∀ F l ks (Lf L : List O) hs ns H', H F = none → Same H H' → H' F = some (.dK l) → Paired (WantAt os hs ns H') l ks → ks.Pairwise (· < ·) → (∀ k : Int, k ∈ ks ↔ ∃ o ∈ Lf, o.p = k) → LR os ss (zer ss) L hs ns → Lf.Perm (os.filter (notPast ns)) → Lf.Pairwise lexO → Q (.ref F) H'
theorem find_left {os Lf : List O} {q : Nat} (PL : Places os q) {ns : List Int} (h : Lf.Perm (os.filter (notPast ns))) {i : Int} (i0 : 0 ≤ i) : findO Lf i (ns.getD i.toNat 0) = findO os i (ns.getD i.toNat 0) := by
  have sub : ∀ o ∈ Lf, o ∈ os := fun o ho => (List.mem_filter.mp (h.mem_iff.mp ho)).1
  cases e : findO os i (ns.getD i.toNat 0) with
  | none =>
    cases e2 : findO Lf i (ns.getD i.toNat 0) with
    | none => rfl
    | some o =>
      obtain ⟨h1, h2, h3⟩ := find_is e2
      have := find_of PL (sub o h1)
      rw [h2, h3, e] at this
      cases this
  | some o =>
    obtain ⟨h1, h2, h3⟩ := find_is e
    have hl : o ∈ Lf := h.mem_iff.mpr (List.mem_filter.mpr ⟨h1, by
      unfold notPast
      rw [h2, h3, decide_eq_false (by omega)]
      rfl⟩)
    have PLf : Places Lf q := ⟨fun o ho => PL.ord o (sub o ho), fun o ho u hu => PL.inj o (sub o ho) u (sub u hu)⟩
    have := find_of PLf hl
    rwa [h2, h3] at this
theorem ok_wanting (T : Txt K mg t) : FnOk P w K mg base (CX1 P w) 8 t.f_wanting t.d_wanting ["orders", "sums"] (sp_gwant t) := by
  refine T.F_wanting.okX sc_wanting (fun vs H Q E h => ?_) (fun cdv A outer s H vs Q E hr h => ?_)
  · obtain ⟨a, ya, xs, os, ss, rfl, _⟩ := h
    rfl
  · obtain ⟨a, ya, xs, os, ss, rfl, ha, ho, hya, G, k⟩ := h
    refine ⟨_, (@pss_cons _ _ _ _ _ (ps_set (i := 2) sc_wanting.nd rfl (Or.inr rfl) (pe_callK (ok_book_of T) (hr.mono (by decide)) rfl T.m_book_of T.F_book_of.kp T.bk0_book_of pass1 (pa_more (pv 0) pa_nil) (pk_cons (pv 1) pk_nil)))
      (@pss_cons _ _ _ _ _ (ps_set (i := 3) sc_wanting.nd rfl (Or.inr rfl) (pe_call (ok_by_place T) (hr.mono (by decide)) rfl T.m_by_place T.F_by_place.kp T.b_by_place .nil pass0 (pa_more (pe_call (ok_left_in T) (hr.mono (by decide)) rfl T.m_left_in T.F_left_in.kp T.b_left_in .nil pass0 (@pa_2 _ _ _ _ _ (pv 2) (pv 0) rfl rfl)) pa_nil)))
      (@pss_one _ _ _ (ps_ret (pe_thaw (pe_dcomp (.dK []) (.inl rfl) (hu_of hr) (N' := ["purse", "number", "places", "book"]) (ix := [none, none, some 3, some 2]) (compOk_is (by kernel_rfl)) rfl (pi_dT (pv 3)) (fun _ _ _ _ => (pg_tupK (K := K) (t := (gCons (gName 0) (gCons (gName 1) gNil))) rfl rfl 2 (pgs_cons (pg_name (i := 0) nd_6 rfl (Or.inl rfl) (.inr rfl)) (pgs_cons (pg_name (i := 1) nd_6 rfl (Or.inl rfl) (.inr rfl)) pgs_nil)) rfl rfl)) (fun _ _ _ _ => pif_nil) (fun _ _ _ _ => (pv 0)) (fun _ _ _ _ => (@pe_tup _ _ _ _ _ (@pa_2 _ _ _ _ _ (pe_ix (ix_listK (K := K) rfl) (pe_fldK (K := K) rfl (pv 3) rfl) (pv 0) (fun _ _ => rfl)) (pe_call (ok_lack_of T) (hr.mono (by decide)) rfl T.m_lack_of T.F_lack_of.kp T.b_lack_of .nil pass0 (@pa_3 _ _ _ _ _ _ _ (pv 0) (pv 2) (pv 3) rfl rfl rfl)) rfl rfl))))))))), ?_⟩
    have PL := G.places
    refine ⟨_, rfl, _, rfl, a, ya, xs, os, ss, rfl, ha, ho, hya, G, fun p dx S N D hs ns ds L H' np nD s' B hd lr => ?_⟩
    obtain ⟨lh, ln⟩ := lr.lens G
    refine ⟨_, rfl, _, rfl, p, dx, S, N, D, a, xs, os, hs, ns, ds, rfl, B, s' _ _ ha, ords_same s' ho, G.few, G.nodup, (fun o om => by have := PL.rng om; omega), fun r ys Lf H2 nr s2 hr2 hy q1 q2 => ?_⟩
    have sub : ∀ o ∈ Lf, o ∈ os := fun o ho => (List.mem_filter.mp (q1.mem_iff.mp ho)).1
    have ndL : Lf.Nodup := q1.nodup_iff.mpr (G.nodup.filter _)
    have GL : Good Lf ss := G.sub sub ndL
    have ll := Paired.length hy
    have fw := GL.few
    have l8 := G.eight
    have h8 : Lf.all (isOrd 8) = true := List.all_eq_true.mpr fun o ho' => isOrd_mono (List.all_eq_true.mp GL.ord o ho') (by omega)
    refine ⟨r, ys, Lf, rfl, hr2, by omega, hy, h8, fun C H3 nC s3 hC => ?_⟩
    rw [places_all hy GL.nd] at hC
    have s12 := s'.trans s2
    have s123 := s12.trans s3
    have nC0 : H C = none := s12.free nC
    have B3 := (B.same s2).same s3
    have hy3 := ords_same s3 hy
    refine ⟨_, rfl, C, _, rfl, hC, fun o F hF => ?_⟩
    obtain ⟨FC, hF1⟩ := upd_none hF
    have nF0 : H F = none := s123.free hF1
    have lk : (pairsOf Lf ys).length = Lf.length := pairs_len hy
    refine dc_dT (o := o) (fun i σ' H' => ∃ v0 v1 l ks, σ' = [v0, v1, some (.ref C), some (.ref p)] ∧ (∀ b u, H3 b = some u → b ≠ C → H' b = some u) ∧ H' C = some (.frz o (.dT (pairsOf Lf ys))) ∧ H' F = some (.dK l) ∧ Paired (WantAt os hs ns H') l ks ∧ ks.Pairwise (· < ·) ∧ (∀ k, k ∈ ks ↔ ∃ o ∈ Lf.take i, o.p = k) ∧ ks.length ≤ i)
      ⟨none, none, [], [], rfl, (fun b u e bC => by rw [upd_ne (ne_of_none e hF1), upd_ne bC]; exact e), (by rw [upd_ne (Ne.symm FC), upd_same]), upd_same, .nil, .nil, (fun k => by simp), Nat.le_refl _⟩ (fun i σ' H' _ ⟨_, _, _, _, _, _, z, _⟩ => z) ?_ ?_
    · rintro i kv b σ' H' ek eb ⟨v0, v1, l, ks, rfl, keep, hC', hF', wl, up, mem, lks⟩
      have hi : i < Lf.length := by rw [← lk]; exact (List.getElem?_eq_some_iff.mp ek).1
      obtain ⟨u, eu⟩ : ∃ u, Lf[i]? = some u := ⟨Lf[i], by simp [hi]⟩
      obtain ⟨y, ey⟩ : ∃ y, ys[i]? = some y := ⟨ys[i]'(by omega), by simp [ll, hi]⟩
      have ekv : kv = (keyO u, y) := by
        have : (pairsOf Lf ys)[i]? = some (keyO u, y) := by
          unfold pairsOf
          rw [List.getElem?_zip_eq_some]
          exact ⟨by rw [List.getElem?_map, eu]; rfl, ey⟩
        rw [ek] at this
        exact Option.some.inj this
      subst ekv
      have um := List.mem_of_getElem? eu
      obtain ⟨b1, _, _, _, _, b6⟩ := PL.rng (sub u um)
      have kept3 : ∀ b v, H3 b = some v → (∀ kvs, v ≠ .dT kvs) → H' b = some v := fun b v e hne => keep b v e (fun z => by subst z; rw [hC] at e; exact hne _ (Option.some.inj e).symm)
      have B' : BookAt t H' p dx S N D hs ns ds := ⟨kept3 _ _ B3.ob (fun _ z => by cases z), kept3 _ _ B3.held (fun _ z => by cases z), kept3 _ _ B3.next (fun _ z => by cases z), kept3 _ _ B3.done (fun _ z => by cases z), B3.sn, B3.sd, B3.nd⟩
      have hyH : OrdsAt H' ys Lf := Paired.mapP hy3 fun x o ⟨c, e, hc⟩ => ⟨c, e, kept3 _ _ hc (fun _ z => by cases z)⟩
      refine ⟨b, _, rfl, SqT.of eb, rfl, _, _, rfl, _, _, rfl, rfl, tYes_i ?_⟩
      refine ⟨_, rfl, _, rfl, p, _, dx, _, _, rfl, B'.ob, T.cl_Book, T.na_Book_next_numbers, bf_next _ _ _, _, rfl, N, _, u.p, _, rfl, rfl, SqL.of B'.next, atI_of b6 (get_map (by omega)), ?_⟩
      refine ⟨_, rfl, _, rfl, _, rfl, u.p, C, p, dx, S, N, D, ys, Lf, hs, ns, ds, rfl, b6, by omega, by omega, .inr ⟨o, hC'⟩, hyH, B', fun H5 s5 => ⟨(by show 2 ≤ sizeLine; decide), fun q hq => ?_⟩⟩
      have s6 := s5.trans (same_upd (o := .tup [.int (ns.getD u.p.toNat 0), lackW Lf hs ns u.p]) hq)
      have hF6 := s6 _ _ hF'
      have ew : lackW Lf hs ns u.p = lackW os hs ns u.p := by unfold lackW; rw [find_left PL q1 b6]
      have wq : WantAt os hs ns (upd H5 q (.tup [.int (ns.getD u.p.toNat 0), lackW Lf hs ns u.p])) (Sum.inl u.p, .ref q) u.p := ⟨rfl, q, rfl, by rw [upd_same, ew]⟩
      have wl6 : Paired (WantAt os hs ns (upd H5 q (.tup [.int (ns.getD u.p.toNat 0), lackW Lf hs ns u.p]))) l ks := Paired.mapP wl fun kv i ⟨e1, q', e2, e3⟩ => ⟨e1, q', e2, s6 _ _ e3⟩
      have wp := want_put wl6 wq
      generalize upd H5 q (.tup [.int (ns.getD u.p.toNat 0), lackW Lf hs ns u.p]) = H6 at s6 hF6 wp
      refine ⟨_, DPut.k (k := Sum.inl u.p) hF6 (small1000 (by have := Paired.length wl; omega)), _, _, _, insK ks u.p, rfl, fun b v e bC => ?_, ?_, upd_same, ?_, ?_, fun k => ?_, ?_⟩
      · have := s6 _ _ (keep b v e bC)
        rw [upd_ne (fun z => by subst z; rw [hF1] at e; cases e)]
        exact this
      · rw [upd_ne (Ne.symm FC)]
        exact s6 _ _ hC'
      · refine Paired.mapP wp fun kv i ⟨e1, q', e2, e3⟩ => ⟨e1, q', e2, ?_⟩
        rw [upd_ne (ne_of e3 hF6 (by intro z; cases z))]
        exact e3
      · unfold insK
        split
        · exact up
        · rename_i hn
          rw [List.pairwise_append]
          refine ⟨up, List.pairwise_singleton _ _, fun x hx y hy => ?_⟩
          have : y = u.p := by simpa using hy
          subst this
          obtain ⟨o', ho', rfl⟩ := (mem x).mp hx
          have hle : o'.p ≤ u.p := by
            obtain ⟨j, hj, e⟩ := List.mem_iff_getElem.mp ho'
            rw [List.length_take] at hj
            rw [List.getElem_take] at e
            have := List.pairwise_iff_getElem.mp q2 j i (by omega) hi (by omega)
            rw [e, (List.getElem?_eq_some_iff.mp eu).2] at this
            exact lex_le this
          have : o'.p ≠ u.p := fun z => hn (z ▸ hx)
          omega
      · rw [take_snoc eu]
        unfold insK
        split
        · rename_i hin
          rw [mem k]
          constructor
          · rintro ⟨o', h1, h2⟩
            exact ⟨o', by simp [h1], h2⟩
          · rintro ⟨o', h1, h2⟩
            rcases List.mem_append.mp h1 with z | z
            · exact ⟨o', z, h2⟩
            · have : o' = u := by simpa using z
              subst this
              rw [← h2]
              exact (mem _).mp hin
        · rw [List.mem_append, mem k]
          constructor
          · rintro (⟨o', h1, h2⟩ | z)
            · exact ⟨o', by simp [h1], h2⟩
            · have : k = u.p := by simpa using z
              exact ⟨u, by simp, this.symm⟩
          · rintro ⟨o', h1, h2⟩
            rcases List.mem_append.mp h1 with z | z
            · exact .inl ⟨o', z, h2⟩
            · have : o' = u := by simpa using z
              subst this
              exact .inr (by simp [h2])
      · unfold insK
        split
        · omega
        · rw [List.length_append]
          show ks.length + 1 ≤ i + 1
          omega
    · rintro σ' H' ⟨v0, v1, l, ks, rfl, keep, hC', hF', wl, up, mem, lks⟩
      refine ⟨C, o, _, hC', (fun o' u' z => by
        have z' : H C = some (.frz o' u') := z
        rw [nC0] at z'
        cases z'), True.intro, ?_⟩
      rw [lk, List.take_length] at mem
      refine k F l ks Lf L hs ns _ nF0 (fun b u e => ?_) (by rw [upd_ne FC]; exact hF') (Paired.mapP wl fun kv i ⟨e1, q', e2, e3⟩ => ⟨e1, q', e2, ?_⟩) up mem lr q1 q2
      · have bC : b ≠ C := ne_of_none e nC0
        rw [upd_ne bC]
        exact keep _ _ (s123 _ _ e) bC
      · rw [upd_ne (ne_of e3 hC' (by intro z; cases z))]
        exact e3
theorem ok__law_town (T : Txt K mg t) : FnOk P w K mg base CX0 1 t.f__law_town t.d__law_town ["_law_script"] (sp_town K) := by
  refine T.F__law_town.ok sc__law_town (fun vs H Q E h => ?_) (fun cdv A outer s H vs Q E hr h => ?_)
  · obtain ⟨a, ns, rfl, _⟩ := h
    rfl
  · obtain ⟨a, ns, rfl, ha, k⟩ := h
    refine ⟨_, (@pss_one _ _ _ (ps_ret (@pe_lst _ _ _ _ (@pa_2 _ _ _ _ _ (pe_ifExp (pt_cmpR (op_neD hr.units) (pv 0) (@pe_lst _ _ _ _ pa_nil) (nomark _)) (pe_callTy call_list_of rfl T.n_list boot_list (pa_more (pv 0) pa_nil)) (@pe_lst _ _ _ _ (pa_more pe_int pa_nil))) pe_int rfl rfl)))), ?_⟩
    refine ⟨_, rfl, (by show 0 ≤ sizeLine; decide), fun p hp => ?_⟩
    have s1 := same_upd (o := .lst []) hp
    refine ⟨.lst (ns.map Dt.int), .lst (([] : List Int).map Dt.int), hasD_listI (s1.seq ha), hasD_listI (SqL.of upd_same), dep_listI _, _, rfl, ?_⟩
    rw [eqD_listI]
    refine ite2 (fun h1 => ?_) (fun h1 => ?_)
    · have ne := nd h1
      refine ⟨_, rfl, a, _, rfl, .inl (s1.seq ha), fun R hR => ?_⟩
      refine ⟨(by show 2 ≤ sizeLine; decide), fun T' hT => ?_⟩
      have s2 := s1.trans (same_upd (o := .lst (ns.map V.int)) hR)
      have nRT : R ≠ T' := ne_of_none upd_same hT
      refine k T' R _ (s2.free hT) (s1.free hR) (s2.trans (same_upd hT)) ⟨ns, 0, upd_same, by rw [upd_ne nRT, upd_same], ?_⟩
      cases ns with
      | nil => exact absurd rfl ne
      | cons x r => exact Nat.succ_pos _
    · refine ⟨(by show 1 ≤ sizeLine; decide), fun R hR => ?_⟩
      refine ⟨(by show 2 ≤ sizeLine; decide), fun T' hT => ?_⟩
      have s2 := s1.trans (same_upd (o := .lst [.int 0]) hR)
      have nRT : R ≠ T' := ne_of_none upd_same hT
      exact k T' R _ (s2.free hT) (s1.free hR) (s2.trans (same_upd hT)) ⟨[0], 0, upd_same, by rw [upd_ne nRT, upd_same]; rfl, Nat.one_pos⟩
theorem ok__law_draw (T : Txt K mg t) : FnOk P w K mg base CX0 1 t.f__law_draw t.d__law_draw ["_law_town_here", "_law_many"] sp_draw := by
  refine T.F__law_draw.ok sc__law_draw (fun vs H Q E h => ?_) (fun cdv A outer s H vs Q E hr h => ?_)
  · obtain ⟨a, R, m, rfl, _⟩ := h
    rfl
  · obtain ⟨To, R, m, rfl, hT, m1, m2, k⟩ := h
    have nTR := hT.ne
    obtain ⟨row, c, h1, h2, h3⟩ := hT
    refine ⟨_, (@pss_cons _ _ _ _ _ (ps_set (i := 2) sc__law_draw.nd rfl (Or.inl rfl) (pe_ix ix_list (pv 0) pe_int (fun _ _ => rfl)))
      (@pss_cons _ _ _ _ _ (ps_asg (pe_op op_add (pe_ix ix_list (pv 0) pe_int (fun _ _ => rfl)) pe_int) (pg_sub (pv 0) pe_int set_list))
      (@pss_cons _ _ _ _ _ (ps_set (i := 3) sc__law_draw.nd rfl (Or.inl rfl) (pe_op op_mod (pe_ix ix_list (pv 0) pe_int (fun _ _ => rfl)) (pe_callB call_len_seq rfl T.n_len boot_len (pa_more (pv 2) pa_nil))))
      (@pss_cons _ _ _ _ _ (ps_set (i := 4) sc__law_draw.nd rfl (Or.inl rfl) (pe_ix ix_list (pv 2) (pv 3) (fun _ _ => rfl)))
      (@pss_cons _ _ _ _ _ (ps_if (pt_cmpR op_ge (pv 4) pe_int (nomark _)) (@pss_cons _ _ _ _ _ (ps_asg (pe_op op_fdiv (pv 4) (pv 1)) (pg_sub (pv 2) (pv 3) set_list))
      (@pss_one _ _ _ (ps_ret (pe_op op_mod (pv 4) (pv 1))))) pss_nil)
      (@pss_cons _ _ _ _ _ (ps_set (i := 5) sc__law_draw.nd rfl (Or.inl rfl) (pe_op op_mod (pe_op op_add (pv 4) (pe_op op_mul pe_int (pe_ix ix_list (pv 0) pe_int (fun _ _ => rfl)))) pe_int))
      (@pss_cons _ _ _ _ _ (ps_set (i := 5) sc__law_draw.nd rfl (Or.inl rfl) (pe_op op_mod (pe_op op_pow (pv 5) pe_int) pe_int))
      (@pss_one _ _ _ (ps_ret (pe_op op_mod (pe_op op_fdiv (pe_op op_mod (pe_op op_add (pe_op op_mul (pe_op op_fdiv (pv 5) pe_int) pe_int) (pv 5)) pe_int) pe_int) (pv 1))))))))))), ?_⟩
    -- the row; the count is one more
    refine ⟨_, rfl, To, _, 0, .ref R, rfl, rfl, SqL.of h1, rfl, ?_⟩
    refine ⟨_, rfl, To, _, 1, .int c, rfl, rfl, SqL.of h1, rfl, _, _, rfl, rfl, ?_⟩
    refine ⟨_, rfl, To, _, 1, 1, rfl, rfl, h1, rfl, ?_⟩
    have g1 : (upd H To (.lst ([V.ref R, V.int c].set 1 (V.int (c + 1))))) To = some (.lst [.ref R, .int (c + 1)]) := upd_same
    have g2 : (upd H To (.lst ([V.ref R, V.int c].set 1 (V.int (c + 1))))) R = some (.lst (row.map V.int)) := by rw [upd_ne nTR.symm]; exact h2
    have kp : KeepT To R H (upd H To (.lst ([V.ref R, V.int c].set 1 (V.int (c + 1))))) := fun b o e n1 _ => by rw [upd_ne n1]; exact e
    generalize upd H To (.lst ([V.ref R, V.int c].set 1 (V.int (c + 1)))) = H1 at g1 g2 kp
    -- the place, the cell
    have hl : (0 : Int) < ((row.map V.int).length : Int) := by rw [List.length_map]; omega
    refine ⟨_, rfl, To, _, 1, .int (c + 1), rfl, rfl, SqL.of g1, rfl, _, rfl, R, _, rfl, .inl (SqL.of g2), _, _, rfl, rfl, hl, ?_⟩
    rw [List.length_map] at hl ⊢
    have b0 : 0 ≤ (c + 1) % (row.length : Int) := Int.emod_nonneg _ (by omega)
    have b1 : (c + 1) % (row.length : Int) < (row.length : Int) := Int.emod_lt_of_pos _ hl
    have b2 : ((c + 1) % (row.length : Int)).toNat < row.length := by omega
    refine ⟨_, rfl, _, rfl, R, _, ((c + 1) % (row.length : Int)), _, rfl, rfl, SqL.of g2, atI_of b0 (get_map b2), ?_⟩
    refine ⟨_, rfl, _, _, rfl, rfl, _, rfl, ?_⟩
    refine ite2 (fun h5 => ?_) (fun h5 => ?_)
    · refine ⟨_, rfl, _, rfl, _, _, rfl, rfl, ⟨by omega, m2⟩, ?_⟩
      refine ⟨_, rfl, _, rfl, R, _, ((c + 1) % (row.length : Int)), _, rfl, rfl, g2, ixN_of b0 (by rw [List.length_map]; exact b2), ?_⟩
      rw [set_map]
      refine ⟨_, rfl, _, rfl, _, _, rfl, rfl, (by show (0 : Int) < m; omega), ?_⟩
      refine k _ _ (Int.emod_nonneg _ (by omega)) (Int.emod_lt_of_pos _ (by omega)) ⟨_, c + 1, by rw [upd_ne nTR]; exact g1, upd_same, by rw [List.length_set]; exact h3⟩ fun b o e n1 n2 => ?_
      rw [upd_ne n2]
      exact kp b o e n1 n2
    · have big : ∀ z : Int, (z % 4294967291).natAbs < 2 ^ 64 := fun z => by
        have u1 := Int.emod_nonneg z (show (4294967291 : Int) ≠ 0 by decide)
        have u2 := Int.emod_lt_of_pos z (show (0 : Int) < 4294967291 by decide)
        omega
      refine ⟨_, rfl, _, rfl, To, _, 1, .int (c + 1), rfl, rfl, SqL.of g1, rfl, _, _, rfl, rfl, .inl ⟨by decide, by decide⟩, _, _, rfl, rfl, _, _, rfl, rfl, (by show (0 : Int) < 4294967291; decide), ?_⟩
      refine ⟨_, rfl, _, _, rfl, rfl, ⟨by decide, by decide, big _⟩, _, _, rfl, rfl, (by show (0 : Int) < 4294967279; decide), ?_⟩
      refine ⟨_, rfl, _, _, rfl, rfl, ⟨by decide, by decide⟩, _, _, rfl, rfl, .inr ⟨by decide, by decide⟩, _, rfl, _, _, rfl, rfl, _, _, rfl, rfl, (by show (0 : Int) < 4294967231; decide), _, _, rfl, rfl, ⟨by decide, by decide⟩, _, rfl, _, _, rfl, rfl, (by show (0 : Int) < m; omega), ?_⟩
      exact k _ _ (Int.emod_nonneg _ (by omega)) (Int.emod_lt_of_pos _ (by omega)) ⟨row, c + 1, g1, g2, h3⟩ kp
theorem ok__law_pick (T : Txt K mg t) : FnOk P w K mg base CX0 2 t.f__law_pick t.d__law_pick ["_law_town_here", "_law_some"] sp_pick := by
  refine T.F__law_pick.ok sc__law_pick (fun vs H Q E h => ?_) (fun cdv A outer s H vs Q E hr h => ?_)
  · obtain ⟨a, R, S, xs, rfl, _⟩ := h
    rfl
  · obtain ⟨To, R, S, xs, rfl, hT, hS, n1, n2, l0, l1, k⟩ := h
    refine ⟨_, (@pss_one _ _ _ (ps_ret (pe_ix ix_list (pv 1) (pe_call (ok__law_draw T) (hr.mono (by decide)) rfl T.m__law_draw T.F__law_draw.kp T.b__law_draw .nil pass0 (@pa_2 _ _ _ _ _ (pv 0) (pe_callB call_len_seq rfl T.n_len boot_len (pa_more (pv 1) pa_nil)) rfl rfl)) (fun _ _ => rfl)))), ?_⟩
    refine ⟨_, rfl, _, rfl, _, rfl, S, xs, rfl, .inl (SqL.of hS), To, R, _, rfl, hT, by omega, by omega, fun d H' d0 d1 hT' kp => ?_⟩
    have hd : d.toNat < xs.length := by omega
    exact ⟨S, xs, d, xs[d.toNat], rfl, rfl, SqL.of (kp _ _ hS n1 n2), atI_of d0 (by simp [hd]), k d.toNat _ H' (by simp [hd]) hT' kp⟩
/-! ### the law's own settling -/
def ordDt (o : O) : Dt := .tup ((ordI o).map Dt.int)
theorem hasD_ord {H : Hp} {K : PySem.W.Frag} {x : V} {o : O} (h : OrdAt H x o) : HasD K H (ordDt o) x := by
  obtain ⟨c, rfl, hc⟩ := h
  exact hasD_tupI (SqT.of hc)
theorem hasDs_ords {H : Hp} {K : PySem.W.Frag} : ∀ {xs : List V} {os : List O}, OrdsAt H xs os → HasDs K H (os.map ordDt) xs
  | _, _, .nil => by rw [List.map_nil, HasDs]
  | x :: xs, o :: os, .cons a r => by
    rw [List.map_cons, HasDs]
    exact ⟨x, xs, rfl, hasD_ord a, hasDs_ords r⟩
theorem hasD_ords {H : Hp} {K : PySem.W.Frag} {a : Addr} {xs : List V} {os : List O} (ha : H a = some (.lst xs)) (h : OrdsAt H xs os) : HasD K H (.lst (os.map ordDt)) (.ref a) := by
  rw [HasD]
  exact ⟨a, xs, rfl, SqL.of ha, hasDs_ords h⟩
theorem dep_ords : ∀ os : List O, depDs (os.map ordDt) ≤ 1
  | [] => by rw [List.map_nil, depDs]; decide
  | o :: os => by
    rw [List.map_cons, depDs]
    have h1 : depD (ordDt o) ≤ 1 := by
      unfold ordDt
      rw [depD, depDs_ints]
      decide
    have := dep_ords os
    omega
theorem dep_lords (os : List O) : depD (.lst (os.map ordDt)) ≤ 60 := by
  rw [depD]
  have := dep_ords os
  omega
theorem eqDs_ords : ∀ A B : List O, eqDs (A.map ordDt) (B.map ordDt) = decide (A = B)
  | [], [] => by simp [eqDs]
  | [], b :: B => by simp [eqDs]
  | a :: A, [] => by simp [eqDs]
  | a :: A, b :: B => by
    rw [List.map_cons, List.map_cons, eqDs, eqDs_ords A B]
    have e : eqD (ordDt a) (ordDt b) = decide (a = b) := by
      unfold ordDt
      rw [eqD_tupI]
      have : (ordI a = ordI b) ↔ a = b := ⟨ordI_inj, fun z => by rw [z]⟩
      simp [this]
    rw [e]
    simp
theorem eqD_ords (A B : List O) : eqD (.lst (A.map ordDt)) (.lst (B.map ordDt)) = decide (A = B) := by rw [eqD, eqDs_ords]
def sp_fits : Sp := fun vs H Q _ => ∃ a ya xs os ss, vs = [.ref a, .ref ya] ∧ H a = some (.lst xs) ∧ OrdsAt H xs os ∧ H ya = some (.lst (ss.map V.int)) ∧ os.all (isOrd ss.length) = true ∧ ss.length ≤ 8 ∧ ∀ H', Same H H' → Q (.bl (rowOk ss (zer ss) os)) H'
theorem ok__law_fits (T : Txt K mg t) : FnOk P w K mg base CX0 1 t.f__law_fits t.d__law_fits ["_law_orders", "_law_begin"] sp_fits := by
  refine T.F__law_fits.ok sc__law_fits (fun vs H Q E h => ?_) (fun cdv A outer s H vs Q E hr h => ?_)
  · obtain ⟨a, ya, xs, os, ss, rfl, _⟩ := h
    rfl
  · obtain ⟨a, ya, xs, os, ss, rfl, ha, ho, hya, hall, l8, k⟩ := h
    have lx : xs.length = os.length := Paired.length ho
    refine ⟨_, (@pss_cons _ _ _ _ _ (ps_par (i := 2) (j := 3) rfl sc__law_fits.nd rfl rfl  (by decide) rfl rfl  (@pa_2 _ _ _ _ _ (pe_callTy call_list_of rfl T.n_list boot_list (pa_more (pv 1) pa_nil)) (pe_op op_rep (@pe_lst _ _ _ _ (pa_more pe_int pa_nil)) (pe_callB call_len_seq rfl T.n_len boot_len (pa_more (pv 1) pa_nil))) rfl rfl) (by rfl))
      (@pss_cons _ _ _ _ _ (ps_for PassesOwn.never rfl (@pi_list _ _ _ _ (pv 0)) (pg_tup rfl (pgs_cons (pg_name (i := 4) sc__law_fits.nd rfl (Or.inl rfl)) (pgs_cons (pg_name (i := 5) sc__law_fits.nd rfl (Or.inl rfl)) (pgs_cons (pg_name (i := 6) sc__law_fits.nd rfl (Or.inl rfl)) (pgs_cons (pg_name (i := 7) sc__law_fits.nd rfl (Or.inl rfl)) pgs_nil))))) (@pss_cons _ _ _ _ _ (ps_if (PW.pt (pw_or (pt_cmpR op_ne (pv 5) (pe_ix ix_list (pv 3) (pv 4) (fun _ _ => rfl)) (nomark _)) (pw_or1 (pt_cmpR op_gt (pv 7) (pe_ix ix_list (pv 2) (pv 4) (fun _ _ => rfl)) (nomark _))))) (@pss_one _ _ _ (ps_ret pe_bl)) pss_nil)
      (@pss_cons _ _ _ _ _ (ps_asg (pe_op op_sub (pe_ix ix_list (pv 2) (pv 4) (fun _ _ => rfl)) (pv 7)) (pg_sub (pv 2) (pv 4) set_list))
      (@pss_cons _ _ _ _ _ (ps_asg (pe_op op_add (pe_ix ix_list (pv 2) (pv 6) (fun _ _ => rfl)) (pv 7)) (pg_sub (pv 2) (pv 6) set_list))
      (@pss_one _ _ _ (ps_asg (pe_op op_add (pv 5) pe_int) (pg_sub (pv 3) (pv 4) set_list)))))))
      (@pss_one _ _ _ (ps_ret pe_bl)))), ?_⟩
    refine ⟨_, rfl, ya, _, rfl, .inl (SqL.of hya), fun W hW => ?_⟩
    refine ⟨(by show 1 ≤ sizeLine; decide), fun Z hZ => ?_⟩
    obtain ⟨ZW, hZ0⟩ := upd_none hZ
    have s0 := (same_upd (o := .lst (ss.map V.int)) hW).trans (same_upd (o := .lst [.int 0]) hZ)
    refine ⟨_, rfl, ya, ss.map V.int, rfl, .inl (SqL.of (s0 _ _ hya)), ?_⟩
    refine ⟨Z, _, [.int 0], rfl, rfl, upd_same, (by omega), (by rw [List.length_map]; omega), len1000 (by rw [List.length_map, Int.toNat_natCast]; show 1 * _ ≤ 1000; omega), fun N hN => ?_⟩
    obtain ⟨NZ, hN1⟩ := upd_none hN
    obtain ⟨NW, hN0⟩ := upd_none hN1
    rw [List.length_map, Int.toNat_natCast, rep0]
    have s1 := s0.trans (same_upd (o := .lst ((List.replicate ss.length (0 : Int)).map V.int)) hN)
    have gW : upd (upd (upd H W (.lst (ss.map V.int))) Z (.lst [.int 0])) N (.lst ((List.replicate ss.length (0 : Int)).map V.int)) W = some (.lst (ss.map V.int)) := by rw [upd_ne (Ne.symm NW), upd_ne (Ne.symm ZW), upd_same]
    have gN : upd (upd (upd H W (.lst (ss.map V.int))) Z (.lst [.int 0])) N (.lst ((List.replicate ss.length (0 : Int)).map V.int)) N = some (.lst ((List.replicate ss.length (0 : Int)).map V.int)) := upd_same
    generalize upd (upd (upd H W (.lst (ss.map V.int))) Z (.lst [.int 0])) N (.lst ((List.replicate ss.length (0 : Int)).map V.int)) = H1 at s1 gW gN
    refine ⟨_, _, rfl, ?_⟩
    refine ⟨_, rfl, a, rfl, ⟨_, SqL.of (s1 _ _ ha)⟩, for_list (K := K) (a := a) (xs := xs) (fun i σ H' => ∃ v0 v1 v2 v3 hs ns, σ = [some (.ref a), some (.ref ya), some (.ref W), some (.ref N), v0, v1, v2, v3] ∧ Same H H' ∧ H' W = some (.lst (hs.map V.int)) ∧ H' N = some (.lst (ns.map V.int)) ∧ hs.length = ss.length ∧ ns.length = ss.length ∧ rowOk ss (zer ss) os = rowOk hs ns (os.drop i))
      ⟨none, none, none, none, ss, _, rfl, s1, gW, gN, rfl, List.length_replicate, rfl⟩ (fun i σ H' _ ⟨_, _, _, _, _, _, _, s', _⟩ => SqL.of (s' _ _ ha)) ?_ ?_⟩
    · rintro i x σ H' hx' ⟨v0, v1, v2, v3, hs, ns, rfl, s', hW', hN', lh, ln, er⟩
      obtain ⟨o, eo, hxo⟩ := ords_get ho hx'
      obtain ⟨c', rfl, hc⟩ := OrdAt.same s' hxo
      have om := List.mem_of_getElem? eo
      have oo := List.all_eq_true.mp hall o om
      have z := isOrd_iff.mp oo
      have hi : i < os.length := (List.getElem?_eq_some_iff.mp eo).1
      have ed : os.drop i = o :: os.drop (i + 1) := by
        rw [List.drop_eq_getElem_cons hi]
        congr 1
        exact (List.getElem?_eq_some_iff.mp eo).2
      rw [ed, M.rowOk] at er
      have b1 : o.p.toNat < ns.length := by omega
      have b2 : o.p.toNat < hs.length := by omega
      have b3 : o.g.toNat < hs.length := by omega
      refine ⟨c', ordV o, rfl, SqT.of hc, rfl, _, _, rfl, _, _, rfl, _, _, rfl, _, _, rfl, rfl, ?_⟩
      have no : ableO hs ns o = false → Q (.bl false) H' := fun e => by
        rw [e, Bool.false_and] at er
        have := k H' s'
        rw [er] at this
        exact this
      refine ⟨_, rfl, _, rfl, _, rfl, N, _, o.p, _, rfl, rfl, SqL.of hN', atI_of z.1 (get_map b1), rfl, _, rfl, ?_⟩
      refine ite2 (fun h1 => ?_) (fun h1 => ?_)
      · have e1 : ¬ o.n = ns.getD o.p.toNat 0 := fun e => by simp [e] at h1
        exact iteT (no (decide_eq_false fun w => e1 w.1))
      · have e1 : o.n = ns.getD o.p.toNat 0 := by
          have := h1
          simp at this
          exact this
        refine ⟨_, rfl, _, rfl, _, rfl, W, _, o.p, _, rfl, rfl, SqL.of hW', atI_of z.1 (get_map b2), _, _, rfl, rfl, _, rfl, ?_⟩
        refine ite2 (fun h2 => ?_) (fun h2 => ?_)
        · have e2 : ¬ o.m ≤ hs.getD o.p.toNat 0 := by
            have := of_decide_eq_true h2
            omega
          exact no (decide_eq_false fun w => e2 w.2)
        · have e2 : o.m ≤ hs.getD o.p.toNat 0 := by
            have : ¬ o.m > hs.getD o.p.toNat 0 := fun w => h2 (decide_eq_true w)
            omega
          have eab : ableO hs ns o = true := decide_eq_true ⟨e1, e2⟩
          rw [eab, Bool.true_and] at er
          refine ⟨_, rfl, _, rfl, W, _, o.p, _, rfl, rfl, SqL.of hW', atI_of z.1 (get_map b2), _, rfl, _, _, rfl, rfl, ?_⟩
          refine ⟨_, rfl, _, rfl, W, _, o.p, _, rfl, rfl, hW', ixN_of z.1 (by rw [List.length_map]; exact b2), ?_⟩
          have q1 : (hs.map V.int).set o.p.toNat (.int (hs.getD o.p.toNat 0 - o.m)) = (addAt hs o.p.toNat (-o.m)).map V.int := set_map _ _ _
          rw [q1]
          have b4 : o.g.toNat < (addAt hs o.p.toNat (-o.m)).length := by rw [addAt_length]; exact b3
          refine ⟨_, rfl, _, rfl, W, _, o.g, _, rfl, rfl, SqL.of upd_same, atI_of z.2.2.1 (get_map b4), _, rfl, _, _, rfl, rfl, ?_⟩
          refine ⟨_, rfl, _, rfl, W, _, o.g, _, rfl, rfl, upd_same, ixN_of z.2.2.1 (by rw [List.length_map]; exact b4), ?_⟩
          have q2 : ((addAt hs o.p.toNat (-o.m)).map V.int).set o.g.toNat (.int ((addAt hs o.p.toNat (-o.m)).getD o.g.toNat 0 + o.m)) = (setH hs o).map V.int := set_map _ _ _
          rw [q2, upd_upd]
          have WN : W ≠ N := Ne.symm NW
          refine ⟨_, rfl, _, _, rfl, rfl, _, rfl, _, rfl, N, _, o.p, _, rfl, rfl, (by rw [upd_ne NW]; exact hN'), ixN_of z.1 (by rw [List.length_map]; exact b1), ?_⟩
          have q3 : (ns.map V.int).set o.p.toNat (.int (o.n + 1)) = (setN ns o).map V.int := by
            rw [e1]
            exact set_map _ _ _
          rw [q3]
          refine ⟨_, _, _, _, _, _, rfl, fun b u e => ?_, ?_, upd_same, (by rw [setH_step, step_length]; exact lh), (by rw [setN_next, nextN_length]; exact ln), er⟩
          · rw [upd_ne (ne_of_none e hN0), upd_ne (ne_of_none e hW)]
            exact s' _ _ e
          · rw [upd_ne WN, upd_same]
    · rintro σ H' ⟨v0, v1, v2, v3, hs, ns, rfl, s', _, _, _, _, er⟩
      rw [lx, List.drop_length] at er
      have := k H' s'
      rw [er] at this
      exact this
def sp_able : Sp := fun vs H Q _ => ∃ a wa na xs os hs ns q, vs = [.ref a, .ref wa, .ref na] ∧ H a = some (.lst xs) ∧ OrdsAt H xs os ∧ H wa = some (.lst (hs.map V.int)) ∧ H na = some (.lst (ns.map V.int)) ∧ Places os q ∧ os.Nodup ∧ os.length ≤ 50 ∧ hs.length = q ∧ ns.length = q ∧
  ∀ r ys H', H r = none → Same H H' → H' r = some (.lst ys) → OrdsAt H' ys (dueO os ns hs) → Q (.ref r) H'
theorem due_sorted {os : List O} {q : Nat} (PL : Places os q) (nd : os.Nodup) {hs ns : List Int} (ln : ns.length = q) {Lf : List O} (h : Lf.Perm (os.filter (ableO hs ns))) (up : Lf.Pairwise lexO) : Lf = dueO os ns hs := by
  refine sorted_one ?_ up ((due_up os ns hs).imp fun h => lex_p h)
  have n1 : Lf.Nodup := h.nodup_iff.mpr (nd.filter _)
  have n2 : (dueO os ns hs).Nodup := (due_up os ns hs).imp fun {a b} h e => by rw [e] at h; omega
  refine (List.perm_ext_iff_of_nodup n1 n2).mpr fun o => ?_
  rw [h.mem_iff, List.mem_filter, mem_due PL ln]
theorem ok__law_able (T : Txt K mg t) : FnOk P w K mg base CX0 1 t.f__law_able t.d__law_able ["_law_orders", "_law_worth", "_law_nexts"] sp_able := by
  refine T.F__law_able.ok sc__law_able (fun vs H Q E h => ?_) (fun cdv A outer s H vs Q E hr h => ?_)
  · obtain ⟨a, wa, na, xs, os, hs, ns, q, rfl, _⟩ := h
    rfl
  · obtain ⟨a, wa, na, xs, os, hs, ns, q, rfl, ha, ho, hwa, hna, PL, nd, fw, lh, ln, k⟩ := h
    have hl : xs.length = os.length := Paired.length ho
    refine ⟨_, (@pss_one _ _ _ (ps_ret (pe_callB call_sortedTX rfl T.n_sorted boot_sorted (pa_more (pe_lcomp (N' := ["_law_one", "_law_nexts", "_law_worth"]) (ix := [none, some 2, some 1]) (compOk_is (by kernel_rfl)) rfl (@pi_list _ _ _ _ (pv 0)) (fun _ _ _ _ => (pg_name (i := 0) nd_7 rfl (Or.inl rfl) (.inr rfl))) (fun _ _ _ _ => (pif_one (PW.pt (pw_and (pt_cmpR op_eq (pe_ix (ix_tupK (K := K) rfl) (pv 0) pe_int (fun _ _ => rfl)) (pe_ix (ix_listK (K := K) rfl) (pv 1) (pe_ix (ix_tupK (K := K) rfl) (pv 0) pe_int (fun _ _ => rfl)) (fun _ _ => rfl)) (nomark _)) (pw_and1 (pt_cmpR op_le (pe_ix (ix_tupK (K := K) rfl) (pv 0) pe_int (fun _ _ => rfl)) (pe_ix (ix_listK (K := K) rfl) (pv 2) (pe_ix (ix_tupK (K := K) rfl) (pv 0) pe_int (fun _ _ => rfl)) (fun _ _ => rfl)) (nomark _))))))) (fun _ _ _ _ => (pv 0))) pa_nil)))), ?_⟩
    refine ⟨_, rfl, a, rfl, ⟨_, SqL.of ha⟩, lc_list (K := K) (a := a) (xs := xs) (fun i ys σ' H' => ∃ v, σ' = [v, some (.ref na), some (.ref wa)] ∧ H' = H ∧ OrdsAt H ys ((os.take i).filter (ableO hs ns))) ⟨none, rfl, rfl, .nil⟩ ?_ ?_ ?_⟩
    · rintro i ys σ' H' hi ⟨v, rfl, rfl, hy⟩
      refine ⟨SqL.of ha, len1000 ?_⟩
      have h1 := Paired.length hy
      have h2 := List.length_filter_le (ableO hs ns) (os.take i)
      rw [List.length_take] at h2
      omega
    · rintro i x ys σ' H' hx ⟨v, rfl, rfl, hy⟩
      obtain ⟨o, eo, c, rfl, hc⟩ := ords_get ho hx
      obtain ⟨b1, _, _, _, _, b6⟩ := PL.rng (List.mem_of_getElem? eo)
      have yes : ableO hs ns o = true → OrdsAt H' (ys ++ [.ref c]) ((os.take (i + 1)).filter (ableO hs ns)) := fun e => by
        rw [take_filter eo, e]
        exact paired_snoc hy ⟨c, rfl, hc⟩
      have no : ableO hs ns o = false → OrdsAt H' ys ((os.take (i + 1)).filter (ableO hs ns)) := fun e => by
        rw [take_filter eo, e]
        simpa using hy
      refine ⟨_, rfl, c, ordV o, 1, .int o.n, rfl, rfl, SqT.of hc, rfl, _, rfl, _, rfl, c, ordV o, 0, .int o.p, rfl, rfl, SqT.of hc, rfl, na, _, o.p, _, rfl, rfl, SqL.of hna, atI_of b6 (get_map (by omega)), rfl, _, rfl, ?_⟩
      refine ite2 (fun h1 => ?_) (fun h1 => ?_)
      · have e1 : o.n = ns.getD o.p.toNat 0 := by simpa using h1
        refine ⟨_, rfl, c, ordV o, 3, .int o.m, rfl, rfl, SqT.of hc, rfl, _, rfl, _, rfl, c, ordV o, 0, .int o.p, rfl, rfl, SqT.of hc, rfl, wa, _, o.p, _, rfl, rfl, SqL.of hwa, atI_of b6 (get_map (by omega)), _, _, rfl, rfl, _, rfl, ?_⟩
        refine ite2 (fun h2 => ?_) (fun h2 => ?_)
        · exact ⟨_, rfl, _, rfl, rfl, yes (decide_eq_true ⟨e1, of_decide_eq_true h2⟩)⟩
        · exact ⟨_, rfl, rfl, no (decide_eq_false fun z => h2 (decide_eq_true z.2))⟩
      · have e1 : ¬ o.n = ns.getD o.p.toNat 0 := fun z => h1 (by simp [z])
        exact iteF ⟨_, rfl, rfl, no (decide_eq_false fun z => e1 z.1)⟩
    · rintro ys σ' H' ⟨v, rfl, rfl, hy⟩ L hL
      rw [hl, List.take_length] at hy
      have sL := same_upd (o := .lst ys) hL
      have hy' := ords_same sL hy
      have h1 := Paired.length hy
      have h2 := List.length_filter_le (ableO hs ns) os
      refine ⟨L, ys, _, rfl, SqL.of upd_same, ords_tups hy', by omega, ordI_nd (nd.filter _), ordI_ne, fun r vs' ts' ix hr' hix ev et p1 p2 _ up => ?_⟩
      obtain ⟨Lf, q1, q2, q3⟩ := sorted_back hy' hix
      rw [et, q3] at up
      rw [ev] at *
      rw [due_sorted PL nd ln q1 (lex_map up)] at q2
      exact k r _ _ (sL.free hr') (sL.trans (same_upd hr')) upd_same (ords_same (same_upd hr') q2)
def sp_settle2 : Sp := fun vs H Q _ => ∃ To R a ya xs os ss b, vs = [.ref To, .ref a, .ref ya, .bl b] ∧ Town To R H ∧ H a = some (.lst xs) ∧ OrdsAt H xs os ∧ H ya = some (.lst (ss.map V.int)) ∧ a ≠ To ∧ a ≠ R ∧ ya ≠ To ∧ ya ≠ R ∧ Good os ss ∧
  ∀ q F W N ds L hs ns H', H F = none → H W = none → H N = none → H q = none → Town To R H' → KeepT To R H H' → H' q = some (.tup [.ref F, .ref W, .ref N]) → H' F = some (.lst ds) → OrdsAt H' ds L → H' W = some (.lst (hs.map V.int)) → H' N = some (.lst (ns.map V.int)) →
    Runs os ss (zer ss) L hs ns → dueO os ns hs = [] → (b = true → LR os ss (zer ss) L hs ns) → Q (.ref q) H'
theorem ordsT {To R : Addr} {H H' : Hp} (hT : Town To R H) (k : KeepT To R H H') {xs : List V} {os : List O} (h : OrdsAt H xs os) : OrdsAt H' xs os := Paired.mapP h fun _ _ ⟨c, e, hc⟩ => ⟨c, e, k _ _ hc (hT.neT hc).1 (hT.neT hc).2⟩
theorem ok__law_settle (T : Txt K mg t) : FnOk P w K mg base CX0 3 t.f__law_settle t.d__law_settle ["_law_town_here", "_law_orders", "_law_begin", "_law_least"] sp_settle2 := by
  refine T.F__law_settle.ok sc__law_settle (fun vs H Q E h => ?_) (fun cdv A outer s H vs Q E hr h => ?_)
  · obtain ⟨To, R, a, ya, xs, os, ss, b, rfl, _⟩ := h
    rfl
  · obtain ⟨To, R, a, ya, xs, os, ss, b, rfl, hT, ha, ho, hya, aT, aR, yT, yR, G, k⟩ := h
    have lx : xs.length = os.length := Paired.length ho
    have PL := G.places
    have l8 := G.eight
    have fw := G.few
    refine ⟨_, (@pss_cons _ _ _ _ _ (ps_par3 (i := 4) (j := 5) (k := 6) rfl sc__law_settle.nd rfl rfl rfl  (by decide) rfl rfl rfl  (@pa_3 _ _ _ _ _ _ _ (pe_callTy call_list_of rfl T.n_list boot_list (pa_more (pv 2) pa_nil)) (pe_op op_rep (@pe_lst _ _ _ _ (pa_more pe_int pa_nil)) (pe_callB call_len_seq rfl T.n_len boot_len (pa_more (pv 2) pa_nil))) (@pe_lst _ _ _ _ pa_nil) rfl rfl rfl) (by rfl))
      (@pss_cons _ _ _ _ _ (ps_set (i := 7) sc__law_settle.nd rfl (Or.inl rfl) (pe_call (ok__law_able T) (hr.mono (by decide)) rfl T.m__law_able T.F__law_able.kp T.b__law_able .nil pass0 (@pa_3 _ _ _ _ _ _ _ (pv 1) (pv 4) (pv 5) rfl rfl rfl)))
      (@pss_cons _ _ _ _ _ (ps_while PassesOwn.never (pt_cmpR (op_neD hr.units) (pv 7) (@pe_lst _ _ _ _ pa_nil) (nomark _)) (@pss_cons _ _ _ _ _ (ps_set (i := 8) sc__law_settle.nd rfl (Or.inl rfl) (pe_ifExp (pt_val (pv 3)) (pe_ix ix_list (pv 7) pe_int (fun _ _ => rfl)) (pe_call (ok__law_pick T) (hr.mono (by decide)) rfl T.m__law_pick T.F__law_pick.kp T.b__law_pick .nil pass0 (@pa_2 _ _ _ _ _ (pv 0) (pv 7) rfl rfl))))
      (@pss_cons _ _ _ _ _ (ps_asg (pe_op op_sub (pe_ix ix_list (pv 4) (pe_ix ix_tup (pv 8) pe_int (fun _ _ => rfl)) (fun _ _ => rfl)) (pe_ix ix_tup (pv 8) pe_int (fun _ _ => rfl))) (pg_sub (pv 4) (pe_ix ix_tup (pv 8) pe_int (fun _ _ => rfl)) set_list))
      (@pss_cons _ _ _ _ _ (ps_asg (pe_op op_add (pe_ix ix_list (pv 4) (pe_ix ix_tup (pv 8) pe_int (fun _ _ => rfl)) (fun _ _ => rfl)) (pe_ix ix_tup (pv 8) pe_int (fun _ _ => rfl))) (pg_sub (pv 4) (pe_ix ix_tup (pv 8) pe_int (fun _ _ => rfl)) set_list))
      (@pss_cons _ _ _ _ _ (ps_asg (pe_op op_add (pe_ix ix_list (pv 5) (pe_ix ix_tup (pv 8) pe_int (fun _ _ => rfl)) (fun _ _ => rfl)) pe_int) (pg_sub (pv 5) (pe_ix ix_tup (pv 8) pe_int (fun _ _ => rfl)) set_list))
      (@pss_cons _ _ _ _ _ (ps_expr (pe_bm PySem.F.plainAttrs_list PySem.F.slot_list_append PySem.F.type_list_append mt_append (pv 6) (pa_more (pv 8) pa_nil)))
      (@pss_one _ _ _ (ps_set (i := 7) sc__law_settle.nd rfl (Or.inl rfl) (pe_call (ok__law_able T) (hr.mono (by decide)) rfl T.m__law_able T.F__law_able.kp T.b__law_able .nil pass0 (@pa_3 _ _ _ _ _ _ _ (pv 1) (pv 4) (pv 5) rfl rfl rfl))))))))))
      (@pss_one _ _ _ (ps_ret (@pe_tup _ _ _ _ _ (@pa_3 _ _ _ _ _ _ _ (pv 6) (pv 4) (pv 5) rfl rfl rfl))))))), ?_⟩
    refine ⟨_, rfl, ya, _, rfl, .inl (SqL.of hya), fun W hW => ?_⟩
    refine ⟨(by show 1 ≤ sizeLine; decide), fun Z hZ => ?_⟩
    obtain ⟨ZW, hZ0⟩ := upd_none hZ
    have s0 := (same_upd (o := .lst (ss.map V.int)) hW).trans (same_upd (o := .lst [.int 0]) hZ)
    refine ⟨_, rfl, ya, ss.map V.int, rfl, .inl (SqL.of (s0 _ _ hya)), ?_⟩
    refine ⟨Z, _, [.int 0], rfl, rfl, upd_same, (by omega), (by rw [List.length_map]; omega), len1000 (by rw [List.length_map, Int.toNat_natCast]; show 1 * _ ≤ 1000; omega), fun N hN => ?_⟩
    obtain ⟨NZ, hN1⟩ := upd_none hN
    obtain ⟨NW, hN0⟩ := upd_none hN1
    rw [List.length_map, Int.toNat_natCast, rep0]
    refine ⟨(by show 0 ≤ sizeLine; decide), fun F hF => ?_⟩
    obtain ⟨FN, hF1⟩ := upd_none hF
    obtain ⟨FZ, hF2⟩ := upd_none hF1
    obtain ⟨FW, hF0⟩ := upd_none hF2
    have s1 := (s0.trans (same_upd (o := .lst ((List.replicate ss.length (0 : Int)).map V.int)) hN)).trans (same_upd (o := .lst []) hF)
    have gW : upd (upd (upd (upd H W (.lst (ss.map V.int))) Z (.lst [.int 0])) N (.lst ((List.replicate ss.length (0 : Int)).map V.int))) F (.lst []) W = some (.lst (ss.map V.int)) := by rw [upd_ne (Ne.symm FW), upd_ne (Ne.symm NW), upd_ne (Ne.symm ZW), upd_same]
    have gN : upd (upd (upd (upd H W (.lst (ss.map V.int))) Z (.lst [.int 0])) N (.lst ((List.replicate ss.length (0 : Int)).map V.int))) F (.lst []) N = some (.lst ((List.replicate ss.length (0 : Int)).map V.int)) := by rw [upd_ne (Ne.symm FN), upd_same]
    have gF : upd (upd (upd (upd H W (.lst (ss.map V.int))) Z (.lst [.int 0])) N (.lst ((List.replicate ss.length (0 : Int)).map V.int))) F (.lst []) F = some (.lst []) := upd_same
    generalize upd (upd (upd (upd H W (.lst (ss.map V.int))) Z (.lst [.int 0])) N (.lst ((List.replicate ss.length (0 : Int)).map V.int))) F (.lst []) = H1 at s1 gW gN gF
    refine ⟨_, _, _, rfl, ?_⟩
    have lz : (List.replicate ss.length (0 : Int)).length = ss.length := List.length_replicate
    refine ⟨_, rfl, _, rfl, _, rfl, a, W, N, xs, os, ss, _, ss.length, rfl, s1 _ _ ha, ords_same s1 ho, gW, gN, PL, G.nodup, fw, rfl, lz, fun r ys H2 nr s2 hr2 hys => ?_⟩
    have fT := hT.fresh hF0
    have wT := hT.fresh hW
    have nT := hT.fresh hN0
    refine ⟨fun m σ H' => ∃ r ys hs ns ds L v, σ = [some (.ref To), some (.ref a), some (.ref ya), some (.bl b), some (.ref W), some (.ref N), some (.ref F), some (.ref r), v] ∧ Town To R H' ∧ KeepT To R H H' ∧ H' W = some (.lst (hs.map V.int)) ∧ H' N = some (.lst (ns.map V.int)) ∧ H' F = some (.lst ds) ∧ OrdsAt H' ds L ∧
        H' r = some (.lst ys) ∧ OrdsAt H' ys (dueO os ns hs) ∧ r ≠ To ∧ r ≠ R ∧ hs.length = ss.length ∧ ns.length = ss.length ∧ L.length + leftN os ns ≤ os.length ∧ m = leftN os ns ∧ Runs os ss (zer ss) L hs ns ∧ (b = true → ∀ M h n, LR os hs ns M h n → LR os ss (zer ss) (L ++ M) h n),
      ⟨_, r, ys, ss, _, [], [], none, rfl, (hT.same s1).same s2, fun b o e _ _ => s2 _ _ (s1 _ _ e), s2 _ _ gW, s2 _ _ gN, s2 _ _ gF, .nil, hr2, hys, ((hT.same s1).fresh nr).1, ((hT.same s1).fresh nr).2, rfl, lz, (by have := left_all (os := os) (ns := List.replicate ss.length 0); show 0 + _ ≤ _; omega), rfl, .nil, fun _ M h n z => z⟩, ?_⟩
    rintro m σ H' ⟨r, ys, hs, ns, ds, L, v, rfl, hT', kp, hW', hN', hF', hds, hr', hys', rT, rR, lh, ln, lL, rfl, run, cont⟩
    refine ⟨_, rfl, (by show 0 ≤ sizeLine; decide), fun e0 he0 => ?_⟩
    have sE := same_upd (o := .lst []) he0
    refine ⟨_, .lst (([] : List O).map ordDt), hasD_ords (sE _ _ hr') (ords_same sE hys'), hasD_ords upd_same .nil, dep_lords _, _, rfl, ?_⟩
    rw [eqD_ords]
    have hT2 := hT'.same sE
    have hr2 := sE _ _ hr'
    have hys2 := ords_same sE hys'
    have hW2 := sE _ _ hW'
    have hN2 := sE _ _ hN'
    have hF2 := sE _ _ hF'
    have hds2 := ords_same sE hds
    have kp2 : KeepT To R H (upd H' e0 (.lst [])) := fun b o e n1 n2 => sE _ _ (kp b o e n1 n2)
    clear hT' hr' hys' hW' hN' hF' hds kp sE
    generalize upd H' e0 (.lst []) = G2 at hT2 hr2 hys2 hW2 hN2 hF2 hds2 kp2
    cases ed : dueO os ns hs with
    | nil =>
      rw [decide_eq_true rfl]
      refine iteF ?_
      refine ⟨_, rfl, _, rfl, _, rfl, (by show 3 ≤ sizeLine; decide), fun q hq => ?_⟩
      have sq := same_upd (o := .tup [.ref F, .ref W, .ref N]) hq
      have nq : H q = none := by
        cases e : H q with
        | none => rfl
        | some o =>
          have n1 : q ≠ To ∧ q ≠ R := hT2.fresh hq
          have := kp2 q o e n1.1 n1.2
          rw [hq] at this
          cases this
      refine k q F W N ds L hs ns _ hF0 hW hN0 nq (hT2.same sq) (fun b o e n1 n2 => sq _ _ (kp2 b o e n1 n2)) upd_same (sq _ _ hF2) (ords_same sq hds2) (sq _ _ hW2) (sq _ _ hN2) run ed fun hb => ?_
      have := cont hb _ _ _ (.nil ed)
      rwa [List.append_nil] at this
    | cons o0 rest0 =>
      rw [decide_eq_false (by simp)]
      refine iteT ?_
      rw [ed] at hys2
      have lys := Paired.length hys2
      rw [List.length_cons] at lys
      have ldue : (dueO os ns hs).length ≤ ns.length := by
        unfold dueO
        refine Nat.le_trans (List.length_filterMap_le ..) ?_
        rw [List.length_range]
        exact Nat.le_refl _
      rw [ed, List.length_cons] at ldue
      have lds := Paired.length hds2
      refine ⟨fun σ' H'' => ∃ o, o ∈ dueO os ns hs ∧ ∃ r ys ds' L' v, σ' = [some (.ref To), some (.ref a), some (.ref ya), some (.bl b), some (.ref W), some (.ref N), some (.ref F), some (.ref r), v] ∧ Town To R H'' ∧ KeepT To R H H'' ∧ H'' W = some (.lst ((setH hs o).map V.int)) ∧ H'' N = some (.lst ((setN ns o).map V.int)) ∧ H'' F = some (.lst ds') ∧ OrdsAt H'' ds' L' ∧
        H'' r = some (.lst ys) ∧ OrdsAt H'' ys (dueO os (setN ns o) (setH hs o)) ∧ r ≠ To ∧ r ≠ R ∧ L' = L ++ [o] ∧ (b = true → o = o0), ?_, ?_⟩
      · rintro σ' H'' ⟨o, om, r, ys, ds', L', v, rfl, x1, x2, x3, x4, x5, x6, x7, x8, x9, x10, rfl, x12⟩
        obtain ⟨m1, m2⟩ := (mem_due PL ln).mp om
        have less := left_less PL ln m1 m2
        refine ⟨_, less, r, ys, _, _, ds', _, v, rfl, x1, x2, x3, x4, x5, x6, x7, x8, x9, x10, (by rw [setH_step, step_length]; exact lh), (by rw [setN_next, nextN_length]; exact ln), ?_, rfl, run.snoc m1 m2, fun hb M h n z => ?_⟩
        · rw [List.length_append]
          show L.length + 1 + _ ≤ _
          omega
        · rw [List.append_assoc]
          have e0 := x12 hb
          subst e0
          exact cont hb _ _ _ (.cons ed z)
      · refine ⟨_, rfl, _, rfl, ?_⟩
        refine iteJ (fun x H3 => ∃ o, o ∈ dueO os ns hs ∧ (b = true → o = o0) ∧ OrdAt H3 x o ∧ Town To R H3 ∧ KeepT To R G2 H3) (fun hb Q' hQ => ?_) (fun hb Q' hQ => ?_) ?_
        · cases hys2 with
          | @cons z _ zs _ hz hrest =>
          exact ⟨_, rfl, r, _, 0, z, rfl, rfl, SqL.of hr2, atI_of (Int.le_refl 0) rfl, hQ z G2 ⟨o0, by rw [ed]; simp, fun _ => rfl, hz, hT2, fun b o e _ _ => e⟩⟩
        · refine ⟨_, rfl, _, rfl, To, R, r, ys, rfl, hT2, hr2, rT, rR, by omega, by omega, fun i x H3 hx hT3 kp3 => ?_⟩
          obtain ⟨o, eo, hxo⟩ := ords_get hys2 hx
          refine hQ x H3 ⟨o, by rw [ed]; exact List.mem_of_getElem? eo, (fun z => by rw [hb] at z; cases z), ?_, hT3, kp3⟩
          obtain ⟨c, e, hc⟩ := hxo
          exact ⟨c, e, kp3 _ _ hc (hT2.neT hc).1 (hT2.neT hc).2⟩
        · rintro x H3 ⟨o, om, o1, ⟨c, rfl, hc⟩, hT3, kp3⟩
          obtain ⟨m1, m2⟩ := (mem_due PL ln).mp om
          obtain ⟨b1, b2, b3, b4, b5, b6⟩ := PL.rng m1
          have g0 := (isOrd_iff.mp (PL.ord o m1)).2.2.1
          have hW3 := kp3 _ _ hW2 wT.1 wT.2
          have hN3 := kp3 _ _ hN2 nT.1 nT.2
          have hF3 := kp3 _ _ hF2 fT.1 fT.2
          have hds3 := ordsT hT2 kp3 hds2
          have kpH : KeepT To R H H3 := fun b o e n1 n2 => kp3 _ _ (kp2 b o e n1 n2) n1 n2
          have i0 : c ≠ W := ne_of hc hW3 (by intro z; cases z)
          have i1 : c ≠ N := ne_of hc hN3 (by intro z; cases z)
          have i2 : c ≠ F := ne_of hc hF3 (by intro z; cases z)
          have WN : W ≠ N := Ne.symm NW
          have WF : W ≠ F := Ne.symm FW
          have NF : N ≠ F := Ne.symm FN
          refine ⟨_, rfl, _, rfl, c, ordV o, 0, .int o.p, rfl, rfl, SqT.of hc, rfl, W, _, o.p, _, rfl, rfl, SqL.of hW3, atI_of b6 (get_map (by omega)), _, rfl, c, ordV o, 3, .int o.m, rfl, rfl, SqT.of hc, rfl, _, _, rfl, rfl, ?_⟩
          refine ⟨_, rfl, _, rfl, c, ordV o, 0, .int o.p, rfl, rfl, SqT.of hc, rfl, W, _, o.p, _, rfl, rfl, hW3, ixN_of b6 (by rw [List.length_map]; omega), ?_⟩
          have q1 : (hs.map V.int).set o.p.toNat (.int (hs.getD o.p.toNat 0 - o.m)) = (addAt hs o.p.toNat (-o.m)).map V.int := set_map _ _ _
          rw [q1]
          have l4 : o.g.toNat < (addAt hs o.p.toNat (-o.m)).length := by rw [addAt_length]; omega
          have hc1 : upd H3 W (.lst ((addAt hs o.p.toNat (-o.m)).map V.int)) c = some (.tup (ordV o)) := by rw [upd_ne i0]; exact hc
          refine ⟨_, rfl, _, rfl, c, ordV o, 2, .int o.g, rfl, rfl, SqT.of hc1, rfl, W, _, o.g, _, rfl, rfl, SqL.of upd_same, atI_of g0 (get_map l4), _, rfl, c, ordV o, 3, .int o.m, rfl, rfl, SqT.of hc1, rfl, _, _, rfl, rfl, ?_⟩
          refine ⟨_, rfl, _, rfl, c, ordV o, 2, .int o.g, rfl, rfl, SqT.of hc1, rfl, W, _, o.g, _, rfl, rfl, upd_same, ixN_of g0 (by rw [List.length_map]; exact l4), ?_⟩
          have q2 : ((addAt hs o.p.toNat (-o.m)).map V.int).set o.g.toNat (.int ((addAt hs o.p.toNat (-o.m)).getD o.g.toNat 0 + o.m)) = (setH hs o).map V.int := set_map _ _ _
          rw [q2, upd_upd]
          have hc2 : upd H3 W (.lst ((setH hs o).map V.int)) c = some (.tup (ordV o)) := by rw [upd_ne i0]; exact hc
          have hN4 : upd H3 W (.lst ((setH hs o).map V.int)) N = some (.lst (ns.map V.int)) := by rw [upd_ne NW]; exact hN3
          refine ⟨_, rfl, _, rfl, c, ordV o, 0, .int o.p, rfl, rfl, SqT.of hc2, rfl, N, _, o.p, _, rfl, rfl, SqL.of hN4, atI_of b6 (get_map (by omega)), _, _, rfl, rfl, ?_⟩
          refine ⟨_, rfl, _, rfl, c, ordV o, 0, .int o.p, rfl, rfl, SqT.of hc2, rfl, N, _, o.p, _, rfl, rfl, hN4, ixN_of b6 (by rw [List.length_map]; omega), ?_⟩
          have q3 : (ns.map V.int).set o.p.toNat (.int (ns.getD o.p.toNat 0 + 1)) = (setN ns o).map V.int := set_map _ _ _
          rw [q3]
          have hF5 : upd (upd H3 W (.lst ((setH hs o).map V.int))) N (.lst ((setN ns o).map V.int)) F = some (.lst ds) := by rw [upd_ne FN, upd_ne FW]; exact hF3
          refine ⟨_, rfl, .inl ⟨rfl, _, SqL.of hF5⟩, _, rfl, F, ds, _, rfl, rfl, hF5, small1000 (by omega), ?_⟩
          have keep : ∀ b u, H3 b = some u → b ≠ W → b ≠ N → b ≠ F → upd (upd (upd H3 W (.lst ((setH hs o).map V.int))) N (.lst ((setN ns o).map V.int))) F (.lst (ds ++ [.ref c])) b = some u := fun b u e x1 x2 x3 => by
            rw [upd_ne x3, upd_ne x2, upd_ne x1]
            exact e
          have gW : upd (upd (upd H3 W (.lst ((setH hs o).map V.int))) N (.lst ((setN ns o).map V.int))) F (.lst (ds ++ [.ref c])) W = some (.lst ((setH hs o).map V.int)) := by rw [upd_ne WF, upd_ne WN, upd_same]
          have gN : upd (upd (upd H3 W (.lst ((setH hs o).map V.int))) N (.lst ((setN ns o).map V.int))) F (.lst (ds ++ [.ref c])) N = some (.lst ((setN ns o).map V.int)) := by rw [upd_ne NF, upd_same]
          have gF : upd (upd (upd H3 W (.lst ((setH hs o).map V.int))) N (.lst ((setN ns o).map V.int))) F (.lst (ds ++ [.ref c])) F = some (.lst (ds ++ [.ref c])) := upd_same
          generalize upd (upd (upd H3 W (.lst ((setH hs o).map V.int))) N (.lst ((setN ns o).map V.int))) F (.lst (ds ++ [.ref c])) = H6 at keep gW gN gF
          have tup6 : ∀ b u, H3 b = some (.tup u) → H6 b = some (.tup u) := fun b u e => keep b _ e (ne_of e hW3 (by intro z; cases z)) (ne_of e hN3 (by intro z; cases z)) (ne_of e hF3 (by intro z; cases z))
          have kp6 : KeepT To R H H6 := fun b u e n1 n2 => keep b u (kpH b u e n1 n2) (ne_of_none e hW) (ne_of_none e hN0) (ne_of_none e hF0)
          have hT6 : Town To R H6 := by
            obtain ⟨row, cc, t1, t2, t3⟩ := hT3
            exact ⟨row, cc, keep _ _ t1 (Ne.symm wT.1) (Ne.symm nT.1) (Ne.symm fT.1), keep _ _ t2 (Ne.symm wT.2) (Ne.symm nT.2) (Ne.symm fT.2), t3⟩
          have ho6 : OrdsAt H6 xs os := Paired.mapP ho fun _ _ ⟨c, e, hc⟩ => ⟨c, e, kp6 _ _ hc (hT.neT hc).1 (hT.neT hc).2⟩
          refine ⟨_, rfl, _, rfl, _, rfl, a, W, N, xs, os, _, _, ss.length, rfl, kp6 _ _ ha aT aR, ho6, gW, gN, PL, G.nodup, fw, (by rw [setH_step, step_length]; exact lh), (by rw [setN_next, nextN_length]; exact ln), fun r' ys' H7 nr' s7 hr7 hys7 => ?_⟩
          refine ⟨o, om, r', ys', _, _, _, rfl, hT6.same s7, fun b u e n1 n2 => s7 _ _ (kp6 b u e n1 n2), s7 _ _ gW, s7 _ _ gN, s7 _ _ gF, ?_, hr7, hys7, (hT6.fresh nr').1, (hT6.fresh nr').2, rfl, o1⟩
          exact paired_snoc (Paired.mapP hds3 fun _ _ ⟨c, e, hc⟩ => ⟨c, e, s7 _ _ (tup6 _ _ hc)⟩) ⟨c, rfl, s7 _ _ (tup6 _ _ hc)⟩
/-- the orders that were drawn so far -/
structure Drawn (os : List O) (q i : Nat) : Prop where
  ord : os.all (isOrd q) = true
  nd : (os.map fun o : O => (o.p, o.n)).Nodup
  few : os.length ≤ i
theorem paired_take {α β : Type} {F : α → β → Prop} : ∀ {xs : List α} {ys : List β} (n : Nat), Paired F xs ys → Paired F (xs.take n) (ys.take n)
  | _, _, 0, _ => .nil
  | _, _, n + 1, .nil => .nil
  | _, _, n + 1, .cons a r => .cons a (paired_take n r)
theorem paired_drop {α β : Type} {F : α → β → Prop} : ∀ {xs : List α} {ys : List β} (n : Nat), Paired F xs ys → Paired F (xs.drop n) (ys.drop n)
  | _, _, 0, h => h
  | _, _, n + 1, .nil => .nil
  | _, _, n + 1, .cons a r => paired_drop n r
theorem paired_app {α β : Type} {F : α → β → Prop} : ∀ {xs xs' : List α} {ys ys' : List β}, Paired F xs ys → Paired F xs' ys' → Paired F (xs ++ xs') (ys ++ ys')
  | _, _, _, _, .nil, h => h
  | _, _, _, _, .cons a r, h => .cons a (paired_app r h)
theorem Drawn.ins {os : List O} {q i : Nat} (h : Drawn os q i) {o : O} (ho : isOrd q o = true) (hn : (o.p, o.n) ∉ os.map fun o : O => (o.p, o.n)) (j : Nat) : Drawn (os.take j ++ o :: os.drop j) q (i + 1) := by
  have pm : (os.take j ++ o :: os.drop j).Perm (o :: os) := List.perm_middle.trans (by rw [List.take_append_drop])
  refine ⟨List.all_eq_true.mpr fun u hu => ?_, ?_, ?_⟩
  · rcases List.mem_cons.mp (pm.mem_iff.mp hu) with rfl | hu
    · exact ho
    · exact List.all_eq_true.mp h.ord u hu
  · refine (pm.map _).nodup_iff.mpr ?_
    rw [List.map_cons, List.nodup_cons]
    exact ⟨hn, h.nd⟩
  · rw [pm.length_eq, List.length_cons]
    have := h.few
    omega
def atPN (p n : Int) (o : O) : Bool := decide (o.p = p ∧ o.n = n)
theorem atPN_none {os : List O} {p n : Int} (h : os.filter (atPN p n) = []) : (p, n) ∉ os.map fun o : O => (o.p, o.n) := fun hm => by
  obtain ⟨o, ho, e⟩ := List.mem_map.mp hm
  have e' := Prod.mk.inj e
  have : o ∈ os.filter (atPN p n) := List.mem_filter.mpr ⟨ho, decide_eq_true ⟨e'.1, e'.2⟩⟩
  rw [h] at this
  cases this
theorem lack_head (os : List O) (hs ns : List Int) (i : Int) : lackW os hs ns i = match ((os.filter (atPN i (ns.getD i.toNat 0))).map fun o : O => o.m) with
  | [] => .non
  | m :: _ => .int (m - hs.getD i.toNat 0) := by
  unfold lackW findO
  have e : os.find? (fun o => decide (o.p = i ∧ o.n = ns.getD i.toNat 0)) = (os.filter (atPN i (ns.getD i.toNat 0))).head? := List.head?_filter.symm
  rw [e]
  cases os.filter (atPN i (ns.getD i.toNat 0)) with
  | nil => rfl
  | cons o r => rfl
def lackDt (os : List O) (hs ns : List Int) (i : Int) : Dt := match findO os i (ns.getD i.toNat 0) with
  | some o => .int (o.m - hs.getD i.toNat 0)
  | none => .non
def wantDt (os : List O) (hs ns : List Int) (i : Int) : Dt := .tup [.int (ns.getD i.toNat 0), lackDt os hs ns i]
theorem hasD_want {os : List O} {hs ns : List Int} {H : Hp} {K : PySem.W.Frag} {q : Addr} {i : Int} (h : H q = some (.tup [.int (ns.getD i.toNat 0), lackW os hs ns i])) : HasD K H (wantDt os hs ns i) (.ref q) := by
  unfold wantDt
  rw [HasD]
  refine ⟨q, _, rfl, SqT.of h, ?_⟩
  rw [HasDs]
  refine ⟨_, _, rfl, by rw [HasD], ?_⟩
  rw [HasDs]
  refine ⟨_, _, rfl, ?_, by rw [HasDs]⟩
  unfold lackDt lackW
  cases findO os i (ns.getD i.toNat 0) with
  | none => rw [HasD]
  | some o => rw [HasD]
theorem want_all {os : List O} {hs ns : List Int} {H : Hp} {K : PySem.W.Frag} : ∀ {l : List (Key × V)} {ks : List Int}, Paired (WantAt os hs ns H) l ks →
    l = (ks.map Sum.inl).zip (l.map (·.2)) ∧ l.length = ks.length ∧ HasDs K H (ks.map (wantDt os hs ns)) (l.map (·.2))
  | _, _, .nil => ⟨rfl, rfl, by rw [List.map_nil, List.map_nil, HasDs]⟩
  | kv :: l, i :: ks, .cons ⟨e1, q, e2, e3⟩ r => by
    obtain ⟨i1, i2, i3⟩ := want_all (K := K) r
    refine ⟨?_, by rw [List.length_cons, List.length_cons, i2], ?_⟩
    · rw [List.map_cons, List.map_cons, List.zip_cons_cons, ← i1, ← e1]
    · rw [List.map_cons, List.map_cons, HasDs]
      refine ⟨_, _, rfl, ?_, i3⟩
      rw [e2]
      exact hasD_want e3
theorem eqD_want (os : List O) (hs ns : List Int) (i : Int) : eqD (wantDt os hs ns i) (wantDt os hs ns i) = true := by
  unfold wantDt lackDt
  cases findO os i (ns.getD i.toNat 0) with
  | none => simp [eqD, eqDs]
  | some o => simp [eqD, eqDs]
theorem eqDs_want (os : List O) (hs ns : List Int) : ∀ ks : List Int, eqDs (ks.map (wantDt os hs ns)) (ks.map (wantDt os hs ns)) = true
  | [] => by rw [List.map_nil, eqDs]
  | i :: ks => by rw [List.map_cons, eqDs, eqD_want, eqDs_want os hs ns ks]; rfl
theorem dep_want (os : List O) (hs ns : List Int) : ∀ ks : List Int, depDs (ks.map (wantDt os hs ns)) ≤ 1
  | [] => by rw [List.map_nil, depDs]; decide
  | i :: ks => by
    rw [List.map_cons, depDs]
    have := dep_want os hs ns ks
    have h1 : depD (wantDt os hs ns i) ≤ 1 := by
      unfold wantDt lackDt
      cases findO os i (ns.getD i.toNat 0) with
      | none => simp [depD, depDs]
      | some o => simp [depD, depDs]
    omega
theorem rising_eq {A B : List Int} (hA : A.Pairwise (· < ·)) (hB : B.Pairwise (· < ·)) (h : ∀ x, x ∈ A ↔ x ∈ B) : A = B := by
  have nA : A.Nodup := hA.imp fun h e => by omega
  have nB : B.Nodup := hB.imp fun h e => by omega
  exact List.Perm.eq_of_pairwise (fun a b _ _ h1 h2 => by omega) hA hB ((List.perm_ext_iff_of_nodup nA nB).mpr h)
theorem paired_rev {α β : Type} {F : α → β → Prop} : ∀ {xs : List α} {ys : List β}, Paired F xs ys → Paired F xs.reverse ys.reverse
  | _, _, .nil => .nil
  | _, _, .cons a r => by
    rw [List.reverse_cons, List.reverse_cons]
    exact paired_snoc (paired_rev r) a
theorem dep_bl (b : Bool) : depD (.bl b) ≤ 60 := by cases b <;> decide
theorem cut2n (o : O) : ¬ (HT.sIx (ordV o).length 0 none = 0 ∧ HT.sIx (ordV o).length (ordV o).length (some 2) = (ordV o).length) := by
  have e : (ordV o).length = 4 := rfl
  rw [e]
  decide
theorem eq_pn (a b c d : Int) : eqD (.tup [.int a, .int b]) (.tup [.int c, .int d]) = decide (a = c ∧ b = d) := by
  have := eqD_tupI [a, b] [c, d]
  rw [show Dt.tup ([a, b].map Dt.int) = .tup [.int a, .int b] from rfl, show Dt.tup ([c, d].map Dt.int) = .tup [.int c, .int d] from rfl] at this
  rw [this]
  simp
theorem hasD_pn {K : PySem.W.Frag} {H : Hp} {q : Addr} {a b : Int} (h : H q = some (.tup [.int a, .int b])) : HasD K H (.tup [.int a, .int b]) (.ref q) := hasD_tupI (ns := [a, b]) (SqT.of h)
theorem dep_pn (a b : Int) : depD (.tup [.int a, .int b]) ≤ 60 := dep_tupI [a, b]
set_option maxHeartbeats 0 in
theorem ok_law (T : Txt K mg t) : FnOk P w K mg base CX0 12 t.f_law t.d_law ["_law_script"] (sp_law K) := by
  refine (T.F_law.ok (k := 11) sc_law (fun vs H Q E h => ?_) (fun cdv A outer s H vs Q E hr h => ?_))
  · obtain ⟨a, ns, rfl, _⟩ := h
    rfl
  · obtain ⟨a, ns, rfl, hS, hn, k⟩ := h
    refine ⟨_, (@pss_cons _ _ _ _ _ (ps_set (i := 1) sc_law.nd rfl (Or.inr rfl) (pe_call (ok__law_town T) (hr.mono (by decide)) rfl T.m__law_town T.F__law_town.kp T.b__law_town .nil pass0 (pa_more (pv 0) pa_nil)))
      (@pss_cons _ _ _ _ _ (ps_lcomp (i := 2) sc_law.nd rfl rfl (N' := ["_law_k", "_law_town_here"]) (ix := [none, some 1]) (compOk_is (by kernel_rfl)) rfl (pi_range1 rfl T.n_range (pa_more (pe_op op_add pe_int (pe_call (ok__law_draw T) (hr.mono (by decide)) rfl T.m__law_draw T.F__law_draw.kp T.b__law_draw .nil pass0 (@pa_2 _ _ _ _ _ (pv 1) pe_int rfl rfl))) pa_nil)) (fun _ _ _ _ => (pg_name (i := 0) nd_13 rfl (Or.inl rfl) (.inr rfl))) (fun _ _ _ _ => pif_nil) (fun _ _ _ _ => (pe_call (ok__law_draw T) (hr.mono (by decide)) rfl T.m__law_draw T.F__law_draw.kp T.b__law_draw .nil pass0 (@pa_2 _ _ _ _ _ (pv 1) pe_int rfl rfl))))
      (@pss_cons _ _ _ _ _ (@ps_set _ _ 3 _ _ _ _ sc_law.nd rfl (Or.inl rfl) (@pe_lst _ _ _ _ pa_nil) (by rfl) (by first | exact .inl rfl | exact .inr rfl))
      (@pss_cons _ _ _ _ _ (ps_for PassesOwn.never rfl (pi_range1 rfl T.n_range (pa_more (pe_call (ok__law_draw T) (hr.mono (by decide)) rfl T.m__law_draw T.F__law_draw.kp T.b__law_draw .nil pass0 (@pa_2 _ _ _ _ _ (pv 1) pe_int rfl rfl)) pa_nil)) (pg_name (i := 4) sc_law.nd rfl (Or.inl rfl)) (@pss_cons _ _ _ _ _ (ps_set (i := 5) sc_law.nd rfl (Or.inr rfl) (pe_call (ok__law_draw T) (hr.mono (by decide)) rfl T.m__law_draw T.F__law_draw.kp T.b__law_draw .nil pass0 (@pa_2 _ _ _ _ _ (pv 1) (pe_callB call_len_seq rfl T.n_len boot_len (pa_more (pv 2) pa_nil)) rfl rfl)))
      (@pss_cons _ _ _ _ _ (ps_set (i := 6) sc_law.nd rfl (Or.inr rfl) (pe_op op_add (pe_callB call_len_seq rfl T.n_len boot_len (pa_more (pe_lcomp (N' := ["_law_one", "_law_purse"]) (ix := [none, some 5]) (compOk_is (by kernel_rfl)) rfl (@pi_list _ _ _ _ (pv 3)) (fun _ _ _ _ => (pg_name (i := 0) nd_12 rfl (Or.inl rfl) (.inr rfl))) (fun _ _ _ _ => (pif_one (pt_cmpR op_eq (pe_ix (ix_tupK (K := K) rfl) (pv 0) pe_int (fun _ _ => rfl)) (pv 1) (nomark _)))) (fun _ _ _ _ => (pv 0))) pa_nil)) (pe_call (ok__law_pick T) (hr.mono (by decide)) rfl T.m__law_pick T.F__law_pick.kp T.b__law_pick .nil pass0 (@pa_2 _ _ _ _ _ (pv 1) (@pe_lst _ _ _ _ (@pa_4 _ _ _ _ _ _ _ _ _ pe_int pe_int pe_int pe_int rfl rfl rfl rfl)) rfl rfl))))
      (@pss_one _ _ _ (ps_if (pt_cmpR (op_eqD hr.units) (pe_lcomp (N' := ["_law_one", "_law_purse", "_law_number"]) (ix := [none, some 5, some 6]) (compOk_is (by kernel_rfl)) rfl (@pi_list _ _ _ _ (pv 3)) (fun _ _ _ _ => (pg_name (i := 0) nd_11 rfl (Or.inl rfl) (.inr rfl))) (fun _ _ _ _ => (pif_one (pt_cmpR (op_eqDK (K := K) rfl hr.units) (pe_slice (sl_tupK (K := K) rfl) (pv 0) po_none (po_some pe_int)) (@pe_tup _ _ _ _ _ (@pa_2 _ _ _ _ _ (pv 1) (pv 2) rfl rfl)) (nomark _)))) (fun _ _ _ _ => (pv 0))) (@pe_lst _ _ _ _ pa_nil) (nomark _)) (@pss_cons _ _ _ _ _ (ps_set (i := 7) sc_law.nd rfl (Or.inl rfl) (pe_op op_mod (pe_op op_add (pe_op op_add (pv 5) pe_int) (pe_call (ok__law_draw T) (hr.mono (by decide)) rfl T.m__law_draw T.F__law_draw.kp T.b__law_draw .nil pass0 (@pa_2 _ _ _ _ _ (pv 1) (pe_op op_sub (pe_callB call_len_seq rfl T.n_len boot_len (pa_more (pv 2) pa_nil)) pe_int) rfl rfl))) (pe_callB call_len_seq rfl T.n_len boot_len (pa_more (pv 2) pa_nil))))
      (@pss_one _ _ _ (ps_expr (pe_bm PySem.F.plainAttrs_list PySem.F.slot_list_insert PySem.F.type_list_insert mt_insert (pv 3) (@pa_2 _ _ _ _ _ (pe_call (ok__law_draw T) (hr.mono (by decide)) rfl T.m__law_draw T.F__law_draw.kp T.b__law_draw .nil pass0 (@pa_2 _ _ _ _ _ (pv 1) (pe_op op_add (pe_callB call_len_seq rfl T.n_len boot_len (pa_more (pv 3) pa_nil)) pe_int) rfl rfl)) (@pe_tup _ _ _ _ _ (@pa_4 _ _ _ _ _ _ _ _ _ (pv 5) (pv 6) (pv 7) (pe_op op_add pe_int (pe_call (ok__law_draw T) (hr.mono (by decide)) rfl T.m__law_draw T.F__law_draw.kp T.b__law_draw .nil pass0 (@pa_2 _ _ _ _ _ (pv 1) pe_int rfl rfl))) rfl rfl rfl rfl)) rfl rfl))))) pss_nil)))))
      (@pss_cons _ _ _ _ _ (ps_set (i := 8) sc_law.nd rfl (Or.inl rfl) (pe_callTy call_list_of rfl T.n_list boot_list (pa_more (pv 3) pa_nil)))
      (@pss_cons _ _ _ _ _ (ps_asg (pe_call (ok__law_settle T) (hr.mono (by decide)) rfl T.m__law_settle T.F__law_settle.kp T.b__law_settle .nil pass0 (@pa_4 _ _ _ _ _ _ _ _ _ (pv 1) (pv 3) (pv 2) pe_bl rfl rfl rfl rfl)) (pg_tup rfl (pgs_cons (pg_name (i := 9) sc_law.nd rfl (Or.inr rfl)) (pgs_cons (pg_name (i := 10) sc_law.nd rfl (Or.inl rfl)) (pgs_cons (pg_name (i := 11) sc_law.nd rfl (Or.inr rfl)) pgs_nil)))))
      (@pss_cons _ _ _ _ _ (ps_set (i := 12) sc_law.nd rfl (Or.inl rfl) (pe_callK (ok_row_for T) (hr.mono (by decide)) rfl T.m_row_for T.F_row_for.kp T.bk0_row_for pass1_0 (pa_more (pv 3) pa_nil) (pk_cons (pv 2) pk_nil)))
      (@pss_cons _ _ _ _ _ (ps_if (PW.pt (pw_or (pt_cmpR (op_neD hr.units) (pv 12) (pv 9) (nomark _)) (pw_or (pt_cmpR op_isnotB (pe_callK (ok_is_row T) (hr.mono (by decide)) rfl T.m_is_row T.F_is_row.kp T.bk0_is_row pass1_0 (pa_more (pv 12) pa_nil) (pk_cons (pv 2) pk_nil)) pe_bl (nomark _)) (pw_or1 (pt_cmpR (op_neD hr.units) (pv 3) (pv 8) (nomark _)))))) (@pss_one _ _ _ (ps_ret pe_bl)) pss_nil)
      (@pss_cons _ _ _ _ _ (ps_asg (pe_call (ok__law_settle T) (hr.mono (by decide)) rfl T.m__law_settle T.F__law_settle.kp T.b__law_settle .nil pass0 (@pa_4 _ _ _ _ _ _ _ _ _ (pv 1) (pv 3) (pv 2) pe_bl rfl rfl rfl rfl)) (pg_tup rfl (pgs_cons (pg_name (i := 13) sc_law.nd rfl (Or.inl rfl)) (pgs_cons (pg_name (i := 14) sc_law.nd rfl (Or.inl rfl)) (pgs_cons (pg_name (i := 15) sc_law.nd rfl (Or.inl rfl)) pgs_nil)))))
      (@pss_cons _ _ _ _ _ (ps_if (PW.pt (pw_or (pt_cmpR (op_neD hr.units) (pe_callB call_sortedTX rfl T.n_sorted boot_sorted (pa_more (pv 13) pa_nil)) (pe_callB call_sortedTX rfl T.n_sorted boot_sorted (pa_more (pv 9) pa_nil)) (nomark _)) (pw_or (pt_cmpR (op_neD hr.units) (pv 14) (pv 10) (nomark _)) (pw_or1 (pt_cmpR op_isnotB (pe_callK (ok_is_row T) (hr.mono (by decide)) rfl T.m_is_row T.F_is_row.kp T.bk0_is_row pass1_0 (pa_more (pv 13) pa_nil) (pk_cons (pv 2) pk_nil)) pe_bl (nomark _)))))) (@pss_one _ _ _ (ps_ret pe_bl)) pss_nil)
      (@pss_cons _ _ _ _ _ (ps_set (i := 16) sc_law.nd rfl (Or.inl rfl) (pe_callB call_sortedTX rfl T.n_sorted boot_sorted (pa_more (pe_lcomp (N' := ["_law_one", "_law_row"]) (ix := [none, some 9]) (compOk_is (by kernel_rfl)) rfl (@pi_list _ _ _ _ (pv 3)) (fun _ _ _ _ => (pg_name (i := 0) nd_10 rfl (Or.inl rfl) (.inr rfl))) (fun _ _ _ _ => (pif_one (pt_cmpR (op_notInTK (K := K) rfl hr.units) (pv 0) (pv 1) (by with_unfolding_all rfl)))) (fun _ _ _ _ => (pv 0))) pa_nil)))
      (@pss_cons _ _ _ _ _ (ps_set (i := 17) sc_law.nd rfl (Or.inl rfl) pe_dnewK)
      (@pss_cons _ _ _ _ _ (ps_for PassesOwn.never rfl (@pi_list _ _ _ _ (pe_callB (call_sortedS rfl) rfl T.n_sorted boot_sorted (pa_more (pe_callTy (call_setI rfl) rfl T.n_set boot_set (pa_more (pe_lcomp (N' := ["_law_one"]) (ix := [none]) (compOk_is (by kernel_rfl)) rfl (@pi_list _ _ _ _ (pv 16)) (fun _ _ _ _ => (pg_name (i := 0) nd_8 rfl (Or.inl rfl) (.inr rfl))) (fun _ _ _ _ => pif_nil) (fun _ _ _ _ => (pe_ix (ix_tupK (K := K) rfl) (pv 0) pe_int (fun _ _ => rfl)))) pa_nil)) pa_nil))) (pg_name (i := 5) sc_law.nd rfl (Or.inr rfl)) (@pss_cons _ _ _ _ _ (ps_lcomp (i := 18) sc_law.nd rfl rfl (N' := ["_law_one", "_law_purse", "_law_nexts"]) (ix := [none, some 5, some 11]) (compOk_is (by kernel_rfl)) rfl (@pi_list _ _ _ _ (pv 3)) (fun _ _ _ _ => (pg_name (i := 0) nd_9 rfl (Or.inl rfl) (.inr rfl))) (fun _ _ _ _ => (pif_one (pt_cmpR (op_eqDK (K := K) rfl hr.units) (pe_slice (sl_tupK (K := K) rfl) (pv 0) po_none (po_some pe_int)) (@pe_tup _ _ _ _ _ (@pa_2 _ _ _ _ _ (pv 1) (pe_ix (ix_listK (K := K) rfl) (pv 2) (pv 1) (fun _ _ => rfl)) rfl rfl)) (nomark _)))) (fun _ _ _ _ => (pe_ix (ix_tupK (K := K) rfl) (pv 0) pe_int (fun _ _ => rfl))))
      (@pss_one _ _ _ (ps_dput (hu_of hr) (pv 17) (pv 5) (@pe_tup _ _ _ _ _ (@pa_2 _ _ _ _ _ (pe_ix ix_list (pv 11) (pv 5) (fun _ _ => rfl)) (pe_ifExp (pt_cmpR (op_neD hr.units) (pv 18) (@pe_lst _ _ _ _ pa_nil) (nomark _)) (pe_op op_sub (pe_ix ix_list (pv 18) pe_int (fun _ _ => rfl)) (pe_ix ix_list (pv 10) (pv 5) (fun _ _ => rfl))) pe_non) rfl rfl)) rfl))))
      (@pss_cons _ _ _ _ _ (ps_if (PW.pt (pw_or (pt_cmpR (op_neD hr.units) (pe_callK (ok_left_over T) (hr.mono (by decide)) rfl T.m_left_over T.F_left_over.kp T.bk0_left_over pass1_0 (pa_more (pv 3) pa_nil) (pk_cons (pv 2) pk_nil)) (pv 16) (nomark _)) (pw_or1 (pt_cmpR (op_neDI hr.units) (pe_callK (ok_wanting T) (hr.mono (by decide)) rfl T.m_wanting T.F_wanting.kp T.bk0_wanting pass1_0 (pa_more (pv 3) pa_nil) (pk_cons (pv 2) pk_nil)) (pv 17) (nomark _))))) (@pss_one _ _ _ (ps_ret pe_bl)) pss_nil)
      (@pss_cons _ _ _ _ _ (ps_set (i := 19) sc_law.nd rfl (Or.inl rfl) (pe_rev (pv 13) (pe_un un_neg pe_int)))
      (@pss_one _ _ _ (ps_ret (pe_cmpR (op_eqD hr.units) (pe_callK (ok_is_row T) (hr.mono (by decide)) rfl T.m_is_row T.F_is_row.kp T.bk0_is_row pass1_0 (pa_more (pv 19) pa_nil) (pk_cons (pv 2) pk_nil)) (pe_or (pe_cmpR op_lt (pe_callB call_len_seq rfl T.n_len boot_len (pa_more (pv 19) pa_nil)) pe_int (nomark _)) (pe_one (pe_call (ok__law_fits T) (hr.mono (by decide)) rfl T.m__law_fits T.F__law_fits.kp T.b__law_fits .nil pass0 (@pa_2 _ _ _ _ _ (pv 19) (pv 2) rfl rfl)))) (nomark _))))))))))))))))))), ?_⟩
    refine ⟨_, rfl, a, ns, rfl, hS, fun To R H1 nT nR s1 hT => ?_⟩
    refine ⟨_, rfl, To, R, 3, rfl, hT, by decide, by decide, fun d H2 d0 d1 hT2 kp2 => ⟨_, _, rfl, rfl, (2 + d), rfl, by omega, by omega, lc_range (lo := 0) (n := (2 + d).toNat) (fun i ys σ' H' => ∃ v ss, σ' = [v, some (.ref To)] ∧ Town To R H' ∧ ys = ss.map V.int ∧ (∀ z ∈ ss, 0 ≤ z ∧ z < 20) ∧ ss.length = i) ⟨none, [], rfl, hT2, rfl, (fun z hz => by cases hz), rfl⟩ ?_ ?_ ?_⟩⟩
    · rintro i ys σ' H' hi ⟨v, ss, rfl, _, rfl, _, hl⟩
      refine len1000 ?_
      rw [List.length_map]
      omega
    · rintro i ys σ' H' hi ⟨v, ss, rfl, hT', rfl, hz, hl⟩
      refine tYes_intro ?_
      refine ⟨_, rfl, To, R, 20, rfl, hT', by decide, by decide, fun e H'' e0 e1 hT'' kp'' => ⟨_, ss ++ [e], rfl, hT'', by rw [List.map_append]; rfl, fun z hz' => ?_, by rw [List.length_append, hl]; rfl⟩⟩
      rcases List.mem_append.mp hz' with z1 | z1
      · exact hz z z1
      · have : z = e := by simpa using z1
        omega
    rintro ys σ' H3 ⟨v, ss, rfl, hT3, rfl, hss, hls⟩ Bg hBg
    have s3 := same_upd (o := .lst (ss.map V.int)) hBg
    have hT4 := hT3.same s3
    have gB : upd H3 Bg (.lst (ss.map V.int)) Bg = some (.lst (ss.map V.int)) := upd_same
    have bT := hT3.fresh hBg
    generalize upd H3 Bg (.lst (ss.map V.int)) = H4 at hT4 gB
    have l2 : 2 ≤ ss.length := by omega
    have l4 : ss.length ≤ 4 := by omega
    clear hS hn s1 hT2 kp2 hT3 s3
    refine ⟨(by show 0 ≤ sizeLine; decide), fun Od hOd => ?_⟩
    have sO := same_upd (o := .lst []) hOd
    have hT5 := hT4.same sO
    have gB5 := sO _ _ gB
    have gO5 : upd H4 Od (.lst []) Od = some (.lst []) := upd_same
    have oT := hT4.fresh hOd
    have bO : Bg ≠ Od := ne_of_none gB hOd
    generalize upd H4 Od (.lst []) = H5 at hT5 gB5 gO5
    refine ⟨_, rfl, To, R, 14, rfl, hT5, by decide, by decide, fun m H6 m0 m1 hT6 kp6 => ?_⟩
    refine ⟨m, rfl, by omega, by omega, for_range (lo := 0) (n := m.toNat) (fun i σ H' => ∃ v4 v5 v6 v7 xs os, σ = [some (.ref a), some (.ref To), some (.ref Bg), some (.ref Od), v4, v5, v6, v7, none, none, none, none, none, none, none, none, none, none, none, none] ∧ Town To R H' ∧ H' Bg = some (.lst (ss.map V.int)) ∧ H' Od = some (.lst xs) ∧ OrdsAt H' xs os ∧ Drawn os ss.length i)
      ⟨none, none, none, none, [], [], rfl, hT6, kp6 _ _ gB5 bT.1 bT.2, kp6 _ _ gO5 oT.1 oT.2, .nil, ⟨rfl, .nil, Nat.le_refl _⟩⟩ ?_ ?_⟩
    · clear hT4 gB hT5 gB5 gO5 hT6 kp6 sO hOd hBg
      rintro i σ H1 hi ⟨v4, v5, v6, v7, xs, os, rfl, hT1, gB1, gO1, ho1, dr⟩
      have lx : xs.length = os.length := Paired.length ho1
      have fw := dr.few
      have lm : (ss.map V.int).length = ss.length := List.length_map ..
      refine ⟨_, rfl, _, rfl, Bg, _, rfl, .inl (SqL.of gB1), To, R, _, rfl, hT1, by omega, by omega, fun p H2 p0 p1 hT2 kp2 => ?_⟩
      have gB2 := kp2 _ _ gB1 bT.1 bT.2
      have gO2 := kp2 _ _ gO1 oT.1 oT.2
      have ho2 := ordsT hT1 kp2 ho1
      clear hT1 gB1 gO1 ho1 kp2
      refine ⟨_, rfl, Od, rfl, ⟨_, SqL.of gO2⟩, lc_list (K := K) (a := Od) (xs := xs) (fun i ys σ' H' => ∃ v, σ' = [v, some (.int p)] ∧ H' = H2 ∧ ys.length ≤ i) ⟨none, rfl, rfl, Nat.le_refl _⟩ ?_ ?_ ?_⟩
      · rintro i ys σ' H' hi' ⟨v, rfl, rfl, hy⟩
        exact ⟨SqL.of gO2, len1000 (by omega)⟩
      · rintro i x ys σ' H' hx ⟨v, rfl, rfl, hy⟩
        obtain ⟨o, eo, c, rfl, hc⟩ := ords_get ho2 hx
        refine ⟨_, rfl, c, ordV o, 0, .int o.p, rfl, rfl, SqT.of hc, rfl, _, rfl, rfl, _, rfl, ?_⟩
        refine ite2 (fun _ => ⟨_, rfl, _, rfl, rfl, ?_⟩) (fun _ => ⟨_, rfl, rfl, by omega⟩)
        rw [List.length_append]
        show ys.length + 1 ≤ _
        omega
      rintro ys0 σ' H' ⟨v, rfl, rfl, hy0⟩ q1 hq1
      have z1 := same_upd (o := .lst ys0) hq1
      have hT3 := hT2.same z1
      have gB3 := z1 _ _ gB2
      have gO3 := z1 _ _ gO2
      have ho3 := ords_same z1 ho2
      have gq1 : upd H' q1 (.lst ys0) q1 = some (.lst ys0) := upd_same
      clear hT2 gB2 gO2 ho2 hq1
      generalize upd H' q1 (.lst ys0) = H3 at hT3 gB3 gO3 ho3 gq1
      refine ⟨q1, ys0, rfl, .inl (SqL.of gq1), _, rfl, (by show 4 ≤ sizeLine; decide), fun q2 hq2 => ?_⟩
      have z2 := same_upd (o := .lst [.int 0, .int 0, .int 0, .int 1]) hq2
      have f2 := hT3.fresh hq2
      refine ⟨To, R, q2, _, rfl, hT3.same z2, upd_same, f2.1, f2.2, by decide, by decide, fun j x H4 hx hT4 kp4 => ?_⟩
      obtain ⟨e, rfl, e0, e1⟩ : ∃ e : Int, x = .int e ∧ 0 ≤ e ∧ e ≤ 1 := by
        have := List.mem_of_getElem? hx
        simp only [List.mem_cons, List.not_mem_nil, or_false] at this
        rcases this with z | z | z | z <;> exact ⟨_, z, by decide, by decide⟩
      have gB4 := kp4 _ _ (z2 _ _ gB3) bT.1 bT.2
      have gO4 := kp4 _ _ (z2 _ _ gO3) oT.1 oT.2
      have ho4 := ordsT (hT3.same z2) kp4 (ords_same z2 ho3)
      clear hT3 gB3 gO3 ho3 kp4 z1 z2 gq1 hq2 hx
      refine ⟨_, _, rfl, rfl, ?_⟩
      let n : Int := (ys0.length : Int) + e
      have n0 : 0 ≤ n := by show 0 ≤ (ys0.length : Int) + e; omega
      have n1 : n ≤ 99 := by show (ys0.length : Int) + e ≤ 99; omega
      refine ⟨_, rfl, Od, rfl, ⟨_, SqL.of gO4⟩, lc_list (K := K) (a := Od) (xs := xs) (fun i ys σ' H' => ∃ v, σ' = [v, some (.int p), some (.int n)] ∧ Same H4 H' ∧ OrdsAt H' ys ((os.take i).filter (atPN p n))) ⟨none, rfl, Same.refl _, .nil⟩ ?_ ?_ ?_⟩
      · rintro i ys σ' H' hi' ⟨v, rfl, s', hy⟩
        refine ⟨SqL.of (s' _ _ gO4), len1000 ?_⟩
        have h1 := Paired.length hy
        have h2 := List.length_filter_le (atPN p n) (os.take i)
        rw [List.length_take] at h2
        omega
      · rintro i x ys σ' H' hx ⟨v, rfl, s', hy⟩
        obtain ⟨o, eo, hxo⟩ := ords_get ho4 hx
        obtain ⟨c, rfl, hc⟩ := OrdAt.same s' hxo
        refine ⟨_, rfl, 2, rfl, c, ordV o, rfl, SqT.of hc, cut2n o, fun q hq => ?_⟩
        have y1 := same_upd (o := .tup (cutV (ordV o) none (some 2))) hq
        refine ⟨_, rfl, _, rfl, (by show 2 ≤ sizeLine; decide), fun q' hq' => ?_⟩
        have y2 := same_upd (o := .tup [.int p, .int n]) hq'
        have y12 := y1.trans y2
        refine ⟨.tup [.int o.p, .int o.n], .tup [.int p, .int n], hasD_pn (y2 _ _ upd_same), hasD_pn upd_same, dep_pn _ _, _, rfl, ?_⟩
        rw [eq_pn]
        have ea : atPN p n o = decide (o.p = p ∧ o.n = n) := rfl
        cases hd : decide (o.p = p ∧ o.n = n) with
        | true =>
          refine iteT ⟨_, rfl, _, rfl, s'.trans y12, ?_⟩
          rw [take_filter eo, ea, hd]
          exact paired_snoc (ords_same y12 hy) ⟨c, rfl, y12 _ _ hc⟩
        | false =>
          refine iteF ⟨_, rfl, s'.trans y12, ?_⟩
          rw [take_filter eo, ea, hd]
          simpa using ords_same y12 hy
      rintro ys1 σ' H' ⟨v, rfl, s', hy1⟩ q3 hq3
      rw [lx, List.take_length] at hy1
      have z3 := same_upd (o := .lst ys1) hq3
      have z4 := s'.trans z3
      have gq3 : upd H' q3 (.lst ys1) q3 = some (.lst ys1) := upd_same
      have hy2 := ords_same z3 hy1
      have hT5 := hT4.same z4
      have gB5 := z4 _ _ gB4
      have gO5 := z4 _ _ gO4
      have ho5 := ords_same z4 ho4
      clear hT4 gB4 gO4 ho4 s' hy1 hq3 z3 z4
      generalize upd H' q3 (.lst ys1) = H5 at gq3 hy2 hT5 gB5 gO5 ho5
      refine ⟨(by show 0 ≤ sizeLine; decide), fun q4 hq4 => ?_⟩
      have z5 := same_upd (o := .lst []) hq4
      refine ⟨_, .lst (([] : List O).map ordDt), hasD_ords (z5 _ _ gq3) (ords_same z5 hy2), hasD_ords upd_same .nil, dep_lords _, _, rfl, ?_⟩
      rw [eqD_ords]
      have hT6 := hT5.same z5
      have gB6 := z5 _ _ gB5
      have gO6 := z5 _ _ gO5
      have ho6 := ords_same z5 ho5
      clear hT5 gB5 gO5 ho5 z5 gq3 hy2
      generalize upd H5 q4 (.lst []) = H6 at hT6 gB6 gO6 ho6
      refine ite2 (fun h1 => ?_) (fun h1 => ?_)
      · have he := atPN_none (of_decide_eq_true h1)
        refine ⟨_, rfl, _, _, rfl, rfl, _, rfl, _, rfl, Bg, _, rfl, .inl (SqL.of gB6), _, _, rfl, rfl, To, R, _, rfl, hT6, by omega, by omega, fun g H7 g0 g1 hT7 kp7 => ?_⟩
        have gB7 := kp7 _ _ gB6 bT.1 bT.2
        have gO7 := kp7 _ _ gO6 oT.1 oT.2
        have ho7 := ordsT hT6 kp7 ho6
        clear hT6 gB6 gO6 ho6 kp7
        refine ⟨_, _, rfl, rfl, _, rfl, Bg, _, rfl, .inl (SqL.of gB7), _, _, rfl, rfl, (by omega), ?_⟩
        refine ⟨_, rfl, .inl ⟨rfl, _, SqL.of gO7⟩, _, rfl, _, rfl, Od, _, rfl, .inl (SqL.of gO7), _, _, rfl, rfl, To, R, _, rfl, hT7, by omega, by omega, fun j H8 j0 j1 hT8 kp8 => ?_⟩
        have gB8 := kp8 _ _ gB7 bT.1 bT.2
        have gO8 := kp8 _ _ gO7 oT.1 oT.2
        have ho8 := ordsT hT7 kp8 ho7
        clear hT7 gB7 gO7 ho7 kp8
        refine ⟨_, rfl, _, rfl, _, rfl, _, rfl, To, R, 15, rfl, hT8, by decide, by decide, fun mu H9 u0 u1 hT9 kp9 => ?_⟩
        have gB9 := kp9 _ _ gB8 bT.1 bT.2
        have gO9 := kp9 _ _ gO8 oT.1 oT.2
        have ho9 := ordsT hT8 kp9 ho8
        clear hT8 gB8 gO8 ho8 kp9
        refine ⟨_, _, rfl, rfl, (by show 4 ≤ sizeLine; decide), fun q5 hq5 => ?_⟩
        have go : (p + 1 + g) % ((ss.map V.int).length : Int) ≠ p ∧ 0 ≤ (p + 1 + g) % ((ss.map V.int).length : Int) ∧ (p + 1 + g) % ((ss.map V.int).length : Int) < (ss.length : Int) := by
          rw [lm]
          refine ⟨?_, Int.emod_nonneg _ (by omega), Int.emod_lt_of_pos _ (by omega)⟩
          intro e
          by_cases hc : p + 1 + g < (ss.length : Int)
          · rw [Int.emod_eq_of_lt (by omega) hc] at e
            omega
          · have e2 : (p + 1 + g) % (ss.length : Int) = p + 1 + g - ss.length := by
              rw [← Int.sub_emod_right, Int.emod_eq_of_lt (by omega) (by omega)]
            omega
        obtain ⟨goal, eg⟩ : ∃ goal, goal = (p + 1 + g) % ((ss.map V.int).length : Int) := ⟨_, rfl⟩
        rw [← eg] at go
        let o : O := ⟨p, n, goal, 1 + mu⟩
        have eo : (HO.tup [.int p, .int n, .int ((p + 1 + g) % ((ss.map V.int).length : Int)), .int (1 + mu)] : HO) = .tup (ordV o) := by rw [← eg]; rfl
        have oo : isOrd ss.length o = true := isOrd_iff.mpr ⟨p0, by show p ≤ _; omega, go.2.1, by show goal ≤ _; omega, (Ne.symm go.1), n0, n1, by show 1 ≤ 1 + mu; omega, by show 1 + mu ≤ 1000; omega⟩
        have dr' := dr.ins (o := o) oo he j.toNat
        refine ⟨Od, xs, j, .ref q5, rfl, rfl, ?_, small1000 (by omega), j0, by omega, ?_⟩
        · exact same_upd hq5 _ _ gO9
        · have z6 := same_upd (o := .tup (ordV o)) hq5
          have hq6 : upd H9 q5 (.tup (ordV o)) q5 = some (.tup (ordV o)) := upd_same
          have gO10 := z6 _ _ gO9
          have gB10 := z6 _ _ gB9
          have ho10 := ords_same z6 ho9
          have hT10 := hT9.same z6
          refine ⟨_, _, _, _, xs.take j.toNat ++ .ref q5 :: xs.drop j.toNat, os.take j.toNat ++ o :: os.drop j.toNat, rfl, ?_⟩
          rw [eo]
          generalize upd H9 q5 (.tup (ordV o)) = HX at hq6 gO10 gB10 ho10 hT10
          have tupX : ∀ {x u}, OrdAt HX x u → OrdAt (upd HX Od (.lst (xs.take j.toNat ++ .ref q5 :: xs.drop j.toNat))) x u := fun {x u} ⟨c, e, hc⟩ => ⟨c, e, by rw [upd_ne (ne_of hc gO10 (by intro z; cases z))]; exact hc⟩
          refine ⟨?_, ?_, upd_same, ?_, dr'⟩
          · obtain ⟨row, cc, t1, t2, t3⟩ := hT10
            exact ⟨row, cc, by rw [upd_ne (Ne.symm oT.1)]; exact t1, by rw [upd_ne (Ne.symm oT.2)]; exact t2, t3⟩
          · rw [upd_ne bO]
            exact gB10
          · exact paired_app (Paired.mapP (paired_take _ ho10) fun _ _ z => tupX z) (.cons (tupX ⟨q5, rfl, hq6⟩) (Paired.mapP (paired_drop _ ho10) fun _ _ z => tupX z))
      · exact ⟨_, _, _, _, xs, os, rfl, hT6, gB6, gO6, ho6, ⟨dr.ord, dr.nd, by omega⟩⟩
    · clear hT4 gB hT5 gB5 gO5 hT6 kp6 sO hOd hBg
      rintro σ H1 ⟨v4, v5, v6, v7, xs, os, rfl, hT1, gB1, gO1, ho1, dr⟩
      have G : Good os ss := ⟨l2, by omega, fun z hz => by have := hss z hz; omega, by have := dr.few; omega, dr.ord, dr.nd⟩
      have PL := G.places
      have lz : (zer ss).length = ss.length := List.length_replicate
      clear dr hss hls m0 m1
      refine ⟨_, rfl, Od, _, rfl, .inl (SqL.of gO1), fun Kp hKp => ?_⟩
      have z1 := same_upd (o := .lst xs) hKp
      have hT2 := hT1.same z1
      have gB2 := z1 _ _ gB1
      have gO2 := z1 _ _ gO1
      have ho2 := ords_same z1 ho1
      have gK2 : upd H1 Kp (.lst xs) Kp = some (.lst xs) := upd_same
      have kT := hT1.fresh hKp
      clear hT1 gB1 gO1 ho1 z1
      generalize upd H1 Kp (.lst xs) = H2 at hT2 gB2 gO2 ho2 gK2
      refine ⟨_, rfl, _, rfl, _, rfl, To, R, Od, Bg, xs, os, ss, true, rfl, hT2, gO2, ho2, gB2, oT.1, oT.2, bT.1, bT.2, G, fun q1 Rw Wo Ne ds L hs ns H3 nRw nWo nNe nq1 hT3 kp3 gq3 gR3 hd3 gW3 gN3 run due0 lr => ?_⟩
      have gB3 := kp3 _ _ gB2 bT.1 bT.2
      have gO3 := kp3 _ _ gO2 oT.1 oT.2
      have ho3 := ordsT hT2 kp3 ho2
      have gK3 := kp3 _ _ gK2 kT.1 kT.2
      have rT := hT2.fresh nRw
      have wT := hT2.fresh nWo
      have nT' := hT2.fresh nNe
      have lr := lr rfl
      clear hT2 gB2 gO2 ho2 gK2 kp3
      refine ⟨q1, [.ref Rw, .ref Wo, .ref Ne], rfl, SqT.of gq3, rfl, _, _, rfl, _, _, rfl, _, _, rfl, rfl, ?_⟩
      refine ⟨_, rfl, _, rfl, Od, Bg, xs, os, ss, rfl, gO3, ho3, gB3, G, fun Td ds2 L2 hs2 ns2 H4 nTd s4 gT4 hd4 lr2 => ?_⟩
      obtain ⟨eL, eh, en⟩ := lr.det lr2
      subst eL eh en
      have hT4 := hT3.same s4
      have gB4 := s4 _ _ gB3
      have gO4 := s4 _ _ gO3
      have ho4 := ords_same s4 ho3
      have gK4 := s4 _ _ gK3
      have gR4 := s4 _ _ gR3
      have hd4' := ords_same s4 hd3
      have gW4 := s4 _ _ gW3
      have gN4 := s4 _ _ gN3
      clear hT3 gB3 gO3 ho3 gK3 gR3 hd3 gW3 gN3 gq3 s4 lr2
      have GL : Good L ss := G.sub run.mem (run.nums PL rfl lz).2.1
      -- the first test
      refine ⟨_, rfl, _, rfl, _, _, hasD_ords gT4 hd4, hasD_ords gR4 hd4', dep_lords _, _, rfl, ?_⟩
      rw [eqD_ords, decide_eq_true rfl]
      refine iteF ?_
      refine ⟨_, rfl, _, rfl, Td, Bg, ds2, L, ss, rfl, gT4, hd4, gB4, GL, fun H5 s5 => ?_⟩
      rw [run.rowOk]
      refine ⟨_, _, rfl, rfl, _, rfl, iteF ?_⟩
      have hT5 := hT4.same s5
      have gB5 := s5 _ _ gB4
      have gO5 := s5 _ _ gO4
      have ho5 := ords_same s5 ho4
      have gK5 := s5 _ _ gK4
      have gR5 := s5 _ _ gR4
      have hd5 := ords_same s5 hd4'
      have gW5 := s5 _ _ gW4
      have gN5 := s5 _ _ gN4
      clear hT4 gB4 gO4 ho4 gK4 gR4 hd4' gW4 gN4 s5 hd4 gT4
      refine ⟨_, rfl, _, rfl, _, _, hasD_ords gO5 ho5, hasD_ords gK5 ho5, dep_lords _, _, rfl, ?_⟩
      rw [eqD_ords, decide_eq_true rfl]
      refine iteF ?_
      -- settled in any other way
      refine ⟨_, rfl, _, rfl, _, rfl, To, R, Od, Bg, xs, os, ss, false, rfl, hT5, gO5, ho5, gB5, oT.1, oT.2, bT.1, bT.2, G, fun q2 Ot Wt Nt ds3 L3 hs3 ns3 H6 nOt nWt nNt nq2 hT6 kp6 gq6 gT6 hd6' gWt6 gNt6 run3 due3 _ => ?_⟩
      have gB6 := kp6 _ _ gB5 bT.1 bT.2
      have gO6 := kp6 _ _ gO5 oT.1 oT.2
      have ho6 := ordsT hT5 kp6 ho5
      have gR6 := kp6 _ _ gR5 rT.1 rT.2
      have hd6 := ordsT hT5 kp6 hd5
      have gW6 := kp6 _ _ gW5 wT.1 wT.2
      have gN6 := kp6 _ _ gN5 nT'.1 nT'.2
      clear hT5 gB5 gO5 ho5 gK5 gR5 hd5 gW5 gN5 kp6
      have ls := run.state PL rfl lz
      have ls3 := run3.state PL rfl lz
      have st : ∀ {h n}, n.length = ss.length → dueO os n h = [] → ∀ o ∈ os, ableO h n o = false := fun {h n} hl e o ho => by
        cases z : ableO h n o with
        | false => rfl
        | true =>
          have := (mem_due PL hl).mpr ⟨ho, z⟩
          rw [e] at this
          cases this
      obtain ⟨pm, eh3, en3⟩ := settled_same PL rfl run3 (st ls3.2.1 due3) run (st ls.2.1 due0)
      have eh4 := eh3.symm
      have en4 := en3.symm
      subst eh4 en4
      have G3 : Good L3 ss := G.sub run3.mem (run3.nums PL rfl lz).2.1
      refine ⟨q2, [.ref Ot, .ref Wt, .ref Nt], rfl, SqT.of gq6, rfl, _, _, rfl, _, _, rfl, _, _, rfl, rfl, ?_⟩
      have c3 := G3.few
      have cL := GL.few
      refine ⟨_, rfl, Ot, ds3, _, rfl, SqL.of gT6, ords_tups hd6', (by have := Paired.length hd6'; omega), ordI_nd G3.nodup, ordI_ne, fun r1 vs1 ts1 ix1 hr1 hix1 ev1 et1 _ _ _ up1 => ?_⟩
      obtain ⟨F1, a1, a2, a3⟩ := sorted_back hd6' hix1
      rw [et1, a3] at up1
      rw [ev1]
      have y1 := same_upd (o := .lst (ix1.map fun i => ds3.getD i .non)) hr1
      have g1 : upd H6 r1 (.lst (ix1.map fun i => ds3.getD i .non)) r1 = some (.lst (ix1.map fun i => ds3.getD i .non)) := upd_same
      have a2' := ords_same y1 a2
      have hT7 := hT6.same y1
      have gB7 := y1 _ _ gB6
      have gO7 := y1 _ _ gO6
      have ho7 := ords_same y1 ho6
      have gR7 := y1 _ _ gR6
      have hd7 := ords_same y1 hd6
      have gW7 := y1 _ _ gW6
      have gN7 := y1 _ _ gN6
      have gT7 := y1 _ _ gT6
      have hd7' := ords_same y1 hd6'
      have gWt7 := y1 _ _ gWt6
      clear hT6 gB6 gO6 ho6 gR6 hd6 gW6 gN6 gT6 hd6' gWt6 gNt6 gq6 y1 a2
      generalize upd H6 r1 (.lst (ix1.map fun i => ds3.getD i .non)) = H7 at g1 a2' hT7 gB7 gO7 ho7 gR7 hd7 gW7 gN7 gT7 hd7' gWt7
      refine ⟨_, rfl, Rw, ds, _, rfl, SqL.of gR7, ords_tups hd7, (by have := Paired.length hd7; omega), ordI_nd GL.nodup, ordI_ne, fun r2 vs2 ts2 ix2 hr2 hix2 ev2 et2 _ _ _ up2 => ?_⟩
      obtain ⟨F2, b1, b2, b3⟩ := sorted_back hd7 hix2
      rw [et2, b3] at up2
      rw [ev2]
      have y2 := same_upd (o := .lst (ix2.map fun i => ds.getD i .non)) hr2
      have g2 : upd H7 r2 (.lst (ix2.map fun i => ds.getD i .non)) r2 = some (.lst (ix2.map fun i => ds.getD i .non)) := upd_same
      have b2' := ords_same y2 b2
      have g1' := y2 _ _ g1
      have a2'' := ords_same y2 a2'
      have hT8 := hT7.same y2
      have gB8 := y2 _ _ gB7
      have gO8 := y2 _ _ gO7
      have ho8 := ords_same y2 ho7
      have gR8 := y2 _ _ gR7
      have hd8 := ords_same y2 hd7
      have gW8 := y2 _ _ gW7
      have gN8 := y2 _ _ gN7
      have gT8 := y2 _ _ gT7
      have hd8' := ords_same y2 hd7'
      have gWt8 := y2 _ _ gWt7
      clear hT7 gB7 gO7 ho7 gR7 hd7 gW7 gN7 gT7 hd7' gWt7 y2 b2 a2' g1
      generalize upd H7 r2 (.lst (ix2.map fun i => ds.getD i .non)) = H8 at g2 b2' g1' a2'' hT8 gB8 gO8 ho8 gR8 hd8 gW8 gN8 gT8 hd8' gWt8
      have eF : F1 = F2 := sorted_one (a1.trans (pm.trans b1.symm)) (lex_map up1) (lex_map up2)
      subst eF
      refine ⟨_, _, hasD_ords g1' a2'', hasD_ords g2 b2', dep_lords _, _, rfl, ?_⟩
      rw [eqD_ords, decide_eq_true rfl]
      refine iteF ?_
      refine ⟨_, rfl, _, rfl, _, _, hasD_listI (SqL.of gWt8), hasD_listI (SqL.of gW8), dep_listI _, _, rfl, ?_⟩
      rw [eqD_listI, decide_eq_true rfl]
      refine iteF ?_
      refine ⟨_, rfl, _, rfl, Ot, Bg, ds3, L3, ss, rfl, gT8, hd8', gB8, G3, fun H9 s9 => ?_⟩
      rw [run3.rowOk]
      refine ⟨_, _, rfl, rfl, _, rfl, iteF ?_⟩
      have hT9 := hT8.same s9
      have gB9 := s9 _ _ gB8
      have gO9 := s9 _ _ gO8
      have ho9 := ords_same s9 ho8
      have gR9 := s9 _ _ gR8
      have hd9 := ords_same s9 hd8
      have gW9 := s9 _ _ gW8
      have gN9 := s9 _ _ gN8
      have gT9 := s9 _ _ gT8
      have hd9' := ords_same s9 hd8'
      clear hT8 gB8 gO8 ho8 gR8 hd8 gW8 gN8 gT8 hd8' gWt8 s9 g2 b2' g1' a2''
      -- what is left
      have pst : ∀ o ∈ os, decide (ordI o ∈ L.map ordI) = decide (o.n < ns.getD o.p.toNat 0) := fun o ho => by
        have h1 := run.past PL rfl ho
        have h2 : ordI o ∈ L.map ordI ↔ o ∈ L := by
          rw [List.mem_map]
          exact ⟨fun ⟨u, hu, e⟩ => ordI_inj e ▸ hu, fun h => ⟨o, h, rfl⟩⟩
        rw [Bool.eq_iff_iff, decide_eq_true_iff, decide_eq_true_iff, h2, h1]
      have lx : xs.length = os.length := Paired.length ho9
      have fw := G.few
      refine ⟨_, rfl, Od, rfl, ⟨_, SqL.of gO9⟩, lc_list (K := K) (a := Od) (xs := xs) (fun i ys σ' H' => ∃ v, σ' = [v, some (.ref Rw)] ∧ H' = H9 ∧ OrdsAt H9 ys ((os.take i).filter (notPast ns))) ⟨none, rfl, rfl, .nil⟩ ?_ ?_ ?_⟩
      · rintro i ys σ' H' hi' ⟨v, rfl, rfl, hy⟩
        refine ⟨SqL.of gO9, len1000 ?_⟩
        have h1 := Paired.length hy
        have h2 := List.length_filter_le (notPast ns) (os.take i)
        rw [List.length_take] at h2
        omega
      · rintro i x ys σ' H' hx ⟨v, rfl, rfl, hy⟩
        obtain ⟨o, eo, c, rfl, hc⟩ := ords_get ho9 hx
        refine ⟨_, rfl, _, rfl, Rw, ds, ordI o, L.map ordI, rfl, SqL.of gR9, ⟨c, rfl, SqT.of hc⟩, ords_tups hd9, _, rfl, ?_⟩
        have e1 := pst o (List.mem_of_getElem? eo)
        have e2 : notPast ns o = !decide (o.n < ns.getD o.p.toNat 0) := rfl
        rw [e1, ← e2]
        cases hd : notPast ns o with
        | true =>
          refine iteT ⟨_, rfl, _, rfl, rfl, ?_⟩
          rw [take_filter eo, hd]
          exact paired_snoc hy ⟨c, rfl, hc⟩
        | false =>
          refine iteF ⟨_, rfl, rfl, ?_⟩
          rw [take_filter eo, hd]
          simpa using hy
      rintro ys0 σ' H' ⟨v, rfl, rfl, hy0⟩ q3 hq3
      rw [lx, List.take_length] at hy0
      have z1 := same_upd (o := .lst ys0) hq3
      have hy1 := ords_same z1 hy0
      have l0 := Paired.length hy0
      have lf := List.length_filter_le (notPast ns) os
      refine ⟨q3, ys0, _, rfl, SqL.of upd_same, ords_tups hy1, by omega, ordI_nd (G.nodup.filter _), ordI_ne, fun Lt vs3 ts3 ix3 hLt hix3 ev3 et3 _ _ _ up3 => ?_⟩
      obtain ⟨Lf, c1, c2, c3'⟩ := sorted_back hy1 hix3
      rw [et3, c3'] at up3
      rw [ev3]
      have upL := lex_map up3
      have z2 := z1.trans (same_upd (o := .lst (ix3.map fun i => ys0.getD i .non)) hLt)
      have gL10 : upd (upd H' q3 (.lst ys0)) Lt (.lst (ix3.map fun i => ys0.getD i .non)) Lt = some (.lst (ix3.map fun i => ys0.getD i .non)) := upd_same
      have hl10 := ords_same (same_upd (o := .lst (ix3.map fun i => ys0.getD i .non)) hLt) c2
      have hT10 := hT9.same z2
      have gB10 := z2 _ _ gB9
      have gO10 := z2 _ _ gO9
      have ho10 := ords_same z2 ho9
      have gW10 := z2 _ _ gW9
      have gN10 := z2 _ _ gN9
      have gT10 := z2 _ _ gT9
      have hd10' := ords_same z2 hd9'
      clear hT9 gB9 gO9 ho9 gR9 hd9 gW9 gN9 gT9 hd9' z1 z2 hy0 hy1 c2 hq3
      generalize upd (upd H' q3 (.lst ys0)) Lt (.lst (ix3.map fun i => ys0.getD i .non)) = H10 at gL10 hl10 hT10 gB10 gO10 ho10 gW10 gN10 gT10 hd10'
      generalize (ix3.map fun i => ys0.getD i .non) = ysL at gL10 hl10
      have subL : ∀ o ∈ Lf, o ∈ os := fun o ho => (List.mem_filter.mp (c1.mem_iff.mp ho)).1
      have lL : ysL.length = Lf.length := Paired.length hl10
      have lfL : Lf.length ≤ 50 := by rw [c1.length_eq]; omega
      -- what is wanting
      refine fun Du hDu => ?_
      have y0 := same_upd (o := .dK []) hDu
      refine ⟨_, rfl, Lt, rfl, ⟨_, SqL.of (y0 _ _ gL10)⟩, lc_list (K := K) (a := Lt) (xs := ysL) (fun i ys σ' H' => ∃ v, σ' = [v] ∧ H' = upd H10 Du (.dK []) ∧ ys = ((Lf.take i).map fun o : O => o.p).map V.int) ⟨none, rfl, rfl, rfl⟩ ?_ ?_ ?_⟩
      · rintro i ys σ' H' hi' ⟨v, rfl, rfl, rfl⟩
        refine ⟨SqL.of (y0 _ _ gL10), len1000 ?_⟩
        rw [List.length_map, List.length_map, List.length_take]
        omega
      · rintro i x ys σ' H' hx ⟨v, rfl, rfl, rfl⟩
        obtain ⟨o, eo, hxo⟩ := ords_get hl10 hx
        obtain ⟨c, rfl, hc⟩ := OrdAt.same y0 hxo
        refine tYes_intro ?_
        refine ⟨_, rfl, c, ordV o, 0, .int o.p, rfl, rfl, SqT.of hc, rfl, _, rfl, rfl, ?_⟩
        rw [take_snoc eo, List.map_append, List.map_append]
        rfl
      rintro ys1 σ' H'' ⟨v, rfl, rfl, rfl⟩ q4 hq4
      rw [lL, List.take_length]
      refine ⟨q4, Lf.map fun o : O => o.p, rfl, SqL.of upd_same, fun z hz => ?_, fun St js hSt hjs hm => ⟨St, js, rfl, upd_same, hjs, fun Sl hSl => ?_⟩⟩
      · obtain ⟨o, ho, rfl⟩ := List.mem_map.mp hz
        have := PL.rng (subL o ho)
        omega
      have y1 := ((y0.trans (same_upd (o := .lst ((Lf.map fun o : O => o.p).map V.int)) hq4)).trans (same_upd (o := IsSet w St js) hSt)).trans (same_upd (o := .lst (js.map fun (j : Nat) => V.int j)) hSl)
      have y2 := ((same_upd (o := .lst ((Lf.map fun o : O => o.p).map V.int)) hq4).trans (same_upd (o := IsSet w St js) hSt)).trans (same_upd (o := .lst (js.map fun (j : Nat) => V.int j)) hSl)
      let H11 : Hp := upd (upd (upd (upd H10 Du (.dK [])) q4 (.lst ((Lf.map fun o : O => o.p).map V.int))) St (IsSet w St js)) Sl (.lst (js.map fun (j : Nat) => V.int j))
      have gD11 : H11 Du = some (.dK []) := y2 _ _ (show upd H10 Du (.dK []) Du = some (.dK []) from upd_same)
      have gS11 : H11 Sl = some (.lst (js.map fun (j : Nat) => V.int j)) := upd_same
      have dT := hT10.fresh hDu
      have hT11 : Town To R H11 := hT10.same y1
      have gB11 : H11 Bg = _ := y1 _ _ gB10
      have gO11 : H11 Od = _ := y1 _ _ gO10
      have ho11 : OrdsAt H11 xs os := ords_same y1 ho10
      have gW11 : H11 Wo = _ := y1 _ _ gW10
      have gN11 : H11 Ne = _ := y1 _ _ gN10
      have gT11 : H11 Ot = _ := y1 _ _ gT10
      have hd11' : OrdsAt H11 ds3 L3 := ords_same y1 hd10'
      have gL11 : H11 Lt = _ := y1 _ _ gL10
      have hl11 : OrdsAt H11 ysL Lf := ords_same y1 hl10
      have nD : ∀ b u, H10 b = some u → b ≠ Du := fun b u e => ne_of_none e hDu
      have bD := nD _ _ gB10
      have oD := nD _ _ gO10
      have wD := nD _ _ gW10
      have nD' := nD _ _ gN10
      have tD := nD _ _ gT10
      have lD := nD _ _ gL10
      have SD : Sl ≠ Du := fun z => by
        have sX := (same_upd (o := .lst ((Lf.map fun o : O => o.p).map V.int)) hq4).trans (same_upd (o := IsSet w St js) hSt)
        have h1 := sX _ _ (show upd H10 Du (.dK []) Du = some (.dK []) from upd_same)
        have h2 : (upd (upd (upd H10 Du (.dK [])) q4 (.lst ((Lf.map fun o : O => o.p).map V.int))) St (IsSet w St js)) Du = none := z ▸ hSl
        rw [h1] at h2
        cases h2
      clear hT10 gB10 gO10 ho10 gW10 gN10 gT10 hd10' gL10 hl10 y0 y1 y2 nD
      have ll := run.state PL rfl lz
      refine ⟨Sl, rfl, ⟨_, SqL.of gS11⟩, for_list (K := K) (a := Sl) (xs := js.map fun (j : Nat) => V.int j) (fun i σ H' => ∃ v5 v18 l, σ = [some (.ref a), some (.ref To), some (.ref Bg), some (.ref Od), v4, v5, v6, v7, some (.ref Kp), some (.ref Rw), some (.ref Wo), some (.ref Ne), some (.ref Td), some (.ref Ot), some (.ref Wt), some (.ref Nt), some (.ref Lt), some (.ref Du), v18, none] ∧
          (∀ b u, H11 b = some u → b ≠ Du → H' b = some u) ∧ H' Du = some (.dK l) ∧ Paired (WantAt os hs ns H') l ((js.take i).map fun (j : Nat) => (j : Int)))
        ⟨_, _, [], rfl, fun b u e _ => e, gD11, .nil⟩ (fun i σ H' _ ⟨_, _, _, _, kp, _⟩ => SqL.of (kp _ _ gS11 SD)) ?_ ?_⟩
      · rintro i x σ H' hx ⟨v5, v18, l, rfl, kp, gD, wl⟩
        obtain ⟨j, ej, rfl⟩ : ∃ j, js[i]? = some j ∧ x = .int (j : Int) := by
          rw [List.getElem?_map] at hx
          cases e : js[i]? with
          | none => rw [e] at hx; cases hx
          | some j => rw [e] at hx; exact ⟨j, rfl, (Option.some.inj hx).symm⟩
        have jlt : j < ss.length := by
          obtain ⟨o, hoL, e⟩ := List.mem_map.mp ((hm j).mp (List.mem_of_getElem? ej))
          have := PL.rng (subL o hoL)
          omega
        have j0 : (0 : Int) ≤ (j : Int) := by omega
        have jn : (j : Int).toNat < ns.length := by rw [ll.2.1]; exact jlt
        have jh : (j : Int).toNat < hs.length := by rw [ll.1]; exact jlt
        have gO' := kp _ _ gO11 oD
        have gN' := kp _ _ gN11 nD'
        have gW' := kp _ _ gW11 wD
        have ho' : OrdsAt H' xs os := Paired.mapP ho11 fun _ _ ⟨c, e, hc⟩ => ⟨c, e, kp _ _ hc (ne_of hc gD11 (by intro z; cases z))⟩
        refine ⟨_, rfl, Od, rfl, ⟨_, SqL.of gO'⟩, lc_list (K := K) (a := Od) (xs := xs) (fun i ys σ' H'' => ∃ v, σ' = [v, some (.int (j : Int)), some (.ref Ne)] ∧ Same H' H'' ∧ ys = (((os.take i).filter (atPN (j : Int) (ns.getD (j : Int).toNat 0))).map fun o : O => o.m).map V.int) ⟨none, rfl, Same.refl _, rfl⟩ ?_ ?_ ?_⟩
        · rintro i ys σ' H'' hi' ⟨v, rfl, s', rfl⟩
          refine ⟨SqL.of (s' _ _ gO'), len1000 ?_⟩
          have h2 := List.length_filter_le (atPN (j : Int) (ns.getD (j : Int).toNat 0)) (os.take i)
          rw [List.length_take] at h2
          rw [List.length_map, List.length_map]
          omega
        · rintro i x ys σ' H'' hx ⟨v, rfl, s', rfl⟩
          obtain ⟨o, eo, hxo⟩ := ords_get ho' hx
          obtain ⟨c, rfl, hc⟩ := OrdAt.same s' hxo
          refine ⟨_, rfl, 2, rfl, c, ordV o, rfl, SqT.of hc, cut2n o, fun q hq => ?_⟩
          have y1 := same_upd (o := .tup (cutV (ordV o) none (some 2))) hq
          refine ⟨_, rfl, _, rfl, _, rfl, Ne, _, (j : Int), _, rfl, rfl, SqL.of (y1 _ _ (s' _ _ gN')), atI_of j0 (get_map jn), (by show 2 ≤ sizeLine; decide), fun q' hq' => ?_⟩
          have y2 := same_upd (o := .tup [.int (j : Int), .int (ns.getD (j : Int).toNat 0)]) hq'
          have y12 := y1.trans y2
          refine ⟨.tup [.int o.p, .int o.n], .tup [.int (j : Int), .int (ns.getD (j : Int).toNat 0)], hasD_pn (y2 _ _ upd_same), hasD_pn upd_same, dep_pn _ _, _, rfl, ?_⟩
          rw [eq_pn]
          have ea : atPN (j : Int) (ns.getD (j : Int).toNat 0) o = decide (o.p = (j : Int) ∧ o.n = ns.getD (j : Int).toNat 0) := rfl
          cases hd : decide (o.p = (j : Int) ∧ o.n = ns.getD (j : Int).toNat 0) with
          | true =>
            refine iteT ⟨_, rfl, c, ordV o, 3, .int o.m, rfl, rfl, SqT.of (y12 _ _ hc), rfl, _, rfl, s'.trans y12, ?_⟩
            rw [take_filter eo, ea, hd, List.map_append, List.map_append]
            rfl
          | false =>
            refine iteF ⟨_, rfl, s'.trans y12, ?_⟩
            rw [take_filter eo, ea, hd]
            simp
        rintro ys1 σ'' H'' ⟨v, rfl, s', rfl⟩ As hAs
        rw [lx, List.take_length]
        obtain ⟨ms, ems⟩ : ∃ ms, ms = (os.filter (atPN (j : Int) (ns.getD (j : Int).toNat 0))).map fun o : O => o.m := ⟨_, rfl⟩
        have elack := lack_head os hs ns (j : Int)
        rw [← ems] at elack ⊢
        have y3 := s'.trans (same_upd (o := .lst (ms.map V.int)) hAs)
        have gA : upd H'' As (.lst (ms.map V.int)) As = some (.lst (ms.map V.int)) := upd_same
        clear hAs s'
        generalize upd H'' As (.lst (ms.map V.int)) = H3 at y3 gA
        refine ⟨_, rfl, _, rfl, Ne, _, (j : Int), _, rfl, rfl, SqL.of (y3 _ _ gN'), atI_of j0 (get_map jn), ?_⟩
        refine ⟨_, rfl, (by show 0 ≤ sizeLine; decide), fun e0 he0 => ?_⟩
        have y4 := same_upd (o := .lst []) he0
        refine ⟨.lst (ms.map Dt.int), .lst (([] : List Int).map Dt.int), hasD_listI (SqL.of (y4 _ _ gA)), hasD_listI (SqL.of upd_same), dep_listI _, _, rfl, ?_⟩
        rw [eqD_listI]
        have y5 := y3.trans y4
        have gA4 := y4 _ _ gA
        clear y3 y4 gA he0
        generalize upd H3 e0 (.lst []) = H4 at y5 gA4
        refine iteJ (fun v H5 => v = lackW os hs ns (j : Int) ∧ H5 = H4) (fun hc Q' hQ => ?_) (fun hc Q' hQ => ?_) ?_
        · cases ms with
          | nil => simp at hc
          | cons m0 mr =>
            refine ⟨_, rfl, As, _, 0, .int m0, rfl, rfl, SqL.of gA4, atI_of (Int.le_refl 0) rfl, _, rfl, _, rfl, Wo, _, (j : Int), _, rfl, rfl, SqL.of (y5 _ _ gW'), atI_of j0 (get_map jh), _, _, rfl, rfl, hQ _ _ ⟨?_, rfl⟩⟩
            rw [elack]
        · cases ms with
          | nil => exact hQ _ _ ⟨by rw [elack], rfl⟩
          | cons m0 mr => simp at hc
        · rintro v H5 ⟨rfl, rfl⟩
          refine ⟨(by show 2 ≤ sizeLine; decide), fun q hq => ?_⟩
          have y6 := y5.trans (same_upd (o := .tup [.int (ns.getD (j : Int).toNat 0), lackW os hs ns (j : Int)]) hq)
          have gD6 := y6 _ _ gD
          have wq : WantAt os hs ns (upd H5 q (.tup [.int (ns.getD (j : Int).toNat 0), lackW os hs ns (j : Int)])) (Sum.inl (j : Int), .ref q) (j : Int) := ⟨rfl, q, rfl, upd_same⟩
          have wl6 := Paired.mapP wl fun kv i ⟨e1, q', e2, e3⟩ => (⟨e1, q', e2, y6 _ _ e3⟩ : WantAt os hs ns (upd H5 q (.tup [.int (ns.getD (j : Int).toNat 0), lackW os hs ns (j : Int)])) kv i)
          have wp := want_put wl6 wq
          have lks := Paired.length wl
          rw [List.length_map, List.length_take] at lks
          obtain ⟨_, js6, jup, _, _⟩ := wkF_all _ (led_mem true) js hjs
          have hnin : (j : Int) ∉ (js.take i).map fun (j : Nat) => (j : Int) := fun h => by
            obtain ⟨j', hj', e⟩ := List.mem_map.mp h
            have e' : j' = j := by omega
            subst e'
            obtain ⟨i', hi', e2⟩ := List.mem_iff_getElem.mp hj'
            rw [List.length_take] at hi'
            rw [List.getElem_take] at e2
            obtain ⟨hi2, e3⟩ := List.getElem?_eq_some_iff.mp ej
            have := List.pairwise_iff_getElem.mp jup i' i (by omega) hi2 (by omega)
            omega
          have eins : insK ((js.take i).map fun (j : Nat) => (j : Int)) (j : Int) = (js.take (i + 1)).map fun (j : Nat) => (j : Int) := by
            unfold insK
            rw [if_neg hnin, take_snoc ej, List.map_append]
            rfl
          rw [eins] at wp
          clear wl6 wq
          refine ⟨_, rfl, _, rfl, Du, _, rfl, DPut.k (k := Sum.inl (j : Int)) gD6 (small1000 (by omega)), ?_⟩
          refine ⟨_, _, _, rfl, fun b u e bD => ?_, upd_same, Paired.mapP wp fun kv i ⟨e1, q', e2, e3⟩ => ⟨e1, q', e2, ?_⟩⟩
          · rw [upd_ne bD]
            exact y6 _ _ (kp _ _ e bD)
          · rw [upd_ne (ne_of e3 gD6 (by intro z; cases z))]
            exact e3
      · rintro σ H' ⟨v5, v18, l, rfl, kp, gD, wl⟩
        rw [List.length_map, List.take_length] at wl
        have tupK : ∀ {x u}, OrdAt H11 x u → OrdAt H' x u := fun {x u} ⟨c, e, hc⟩ => ⟨c, e, kp _ _ hc (ne_of hc gD11 (by intro z; cases z))⟩
        have gB1 := kp _ _ gB11 bD
        have gO1 := kp _ _ gO11 oD
        have gT1 := kp _ _ gT11 tD
        have gL1 := kp _ _ gL11 lD
        have ho1 : OrdsAt H' xs os := Paired.mapP ho11 fun _ _ z => tupK z
        have hd1 : OrdsAt H' ds3 L3 := Paired.mapP hd11' fun _ _ z => tupK z
        have hl1 : OrdsAt H' ysL Lf := Paired.mapP hl11 fun _ _ z => tupK z
        clear kp gB11 gO11 gT11 gL11 ho11 hd11' hl11 gS11 gD11 hT11 gW11 gN11 tupK
        refine ⟨_, rfl, _, rfl, Od, Bg, xs, os, ss, rfl, gO1, ho1, gB1, G, fun r ys4 Lf2 L2 hs2 ns2 H1' nr s1 gr hy lr2 e1 e2 => ?_⟩
        obtain ⟨eL, eh, en⟩ := lr.det lr2
        subst eL eh en
        have eLf : Lf2 = Lf := sorted_one (e1.trans c1.symm) e2 upL
        subst eLf
        refine ⟨_, rfl, _, _, hasD_ords gr hy, hasD_ords (s1 _ _ gL1) (ords_same s1 hl1), dep_lords _, _, rfl, ?_⟩
        rw [eqD_ords, decide_eq_true rfl]
        refine iteF ?_
        have gB2 := s1 _ _ gB1
        have gO2 := s1 _ _ gO1
        have gT2 := s1 _ _ gT1
        have ho2 := ords_same s1 ho1
        have hd2 := ords_same s1 hd1
        have gD2 := s1 _ _ gD
        have wl2 : Paired (WantAt os hs ns H1') l (js.map fun (j : Nat) => (j : Int)) := Paired.mapP wl fun kv i ⟨e1, q', e2, e3⟩ => ⟨e1, q', e2, s1 _ _ e3⟩
        clear gB1 gO1 gT1 gL1 ho1 hd1 hl1 s1 gr hy wl gD
        refine ⟨_, rfl, _, rfl, Od, Bg, xs, os, ss, rfl, gO2, ho2, gB2, G, fun Fd l2 ks Lf3 L4 hs4 ns4 H2' nF s2 gF wl3 up mem lr3 e3 e4 => ?_⟩
        obtain ⟨eL, eh, en⟩ := lr.det lr3
        subst eL eh en
        have eLf : Lf3 = Lf2 := sorted_one (e3.trans c1.symm) e4 upL
        subst eLf
        obtain ⟨_, js6, jup, _, _⟩ := wkF_all _ (led_mem true) js hjs
        have eks : ks = js.map fun (j : Nat) => (j : Int) := by
          refine rising_eq up (List.pairwise_map.mpr (jup.imp fun h => by omega)) fun x => ?_
          rw [mem x, List.mem_map]
          constructor
          · rintro ⟨o, ho, rfl⟩
            have := PL.rng (subL o ho)
            refine ⟨o.p.toNat, (hm _).mpr (List.mem_map.mpr ⟨o, ho, by omega⟩), by omega⟩
          · rintro ⟨j, hj, rfl⟩
            obtain ⟨o, ho, e⟩ := List.mem_map.mp ((hm j).mp hj)
            exact ⟨o, ho, e⟩
        subst eks
        obtain ⟨u1, u2, u3⟩ := want_all (K := K) wl3
        obtain ⟨u4, u5, u6⟩ := want_all (K := K) (Paired.mapP wl2 fun kv i ⟨e1, q', e2, e3⟩ => (⟨e1, q', e2, s2 _ _ e3⟩ : WantAt os hs ns H2' kv i))
        have gF' : H2' Fd = some (.dK (((js.map fun (j : Nat) => (j : Int)).map Sum.inl).zip (l2.map (·.2)))) := by rw [← u1]; exact gF
        have gD' : H2' Du = some (.dK (((js.map fun (j : Nat) => (j : Int)).map Sum.inl).zip (l.map (·.2)))) := by rw [← u4]; exact s2 _ _ gD2
        refine ⟨_, rfl, Fd, Du, (js.map fun (j : Nat) => (j : Int)), (l2.map fun x : Key × V => x.2), (l.map fun x : Key × V => x.2), _, _, rfl, rfl, gF', gD', (by rw [List.length_map]; exact u2), (by rw [List.length_map]; exact u5), u3, u6, eqDs_want _ _ _ _, (by have := dep_want os hs ns (js.map fun (j : Nat) => (j : Int)); omega), _, rfl, iteF ?_⟩
        have gB3 := s2 _ _ gB2
        have gT3 := s2 _ _ gT2
        have hd3 := ords_same s2 hd2
        clear gB2 gO2 gT2 ho2 hd2 gD2 wl2 s2 gF wl3 gF' gD' u1 u2 u3 u4 u5 u6
        refine ⟨_, rfl, _, rfl, rfl, Ot, ds3, rfl, SqL.of gT3, fun Tu hTu => ?_⟩
        have y1 := same_upd (o := .lst ds3.reverse) hTu
        have gU : upd H2' Tu (.lst ds3.reverse) Tu = some (.lst ds3.reverse) := upd_same
        have hdU := paired_rev (ords_same y1 hd3)
        have gB4 := y1 _ _ gB3
        have GR : Good L3.reverse ss := G.sub (fun o ho => run3.mem o (List.mem_reverse.mp ho)) ((List.reverse_perm L3).nodup_iff.mpr G3.nodup)
        clear y1 gB3 gT3 hd3
        generalize upd H2' Tu (.lst ds3.reverse) = H5 at gU hdU gB4
        refine ⟨_, rfl, _, rfl, Tu, Bg, ds3.reverse, L3.reverse, ss, rfl, gU, hdU, gB4, GR, fun H6 s6 => ?_⟩
        refine ⟨_, rfl, Tu, ds3.reverse, rfl, .inl (SqL.of (s6 _ _ gU)), _, _, rfl, rfl, ?_⟩
        have same : ∀ b : Bool, eqD (.bl b) (.bl b) = true := fun b => by rw [eqD]; simp
        refine ⟨_, rfl, ite2 (fun h1 => ?_) (fun h1 => ?_)⟩
        · have hl := of_decide_eq_true h1
          have l3 := Paired.length hdU
          rw [List.length_reverse] at hl
          rw [List.length_reverse, List.length_reverse] at l3
          have er : L3.reverse = L3 := by
            match L3, l3 with
            | [], _ => rfl
            | [_], _ => rfl
            | _ :: _ :: _, e => exact absurd hl (by rw [e]; simp; omega)
          rw [er, run3.rowOk]
          refine ⟨.bl true, .bl true, rfl, rfl, by decide, ?_⟩
          rw [same]
          exact k _
        · refine ⟨_, rfl, _, rfl, Tu, Bg, ds3.reverse, L3.reverse, ss, rfl, s6 _ _ gU, ords_same s6 hdU, s6 _ _ gB4, GR.ord, by omega, fun H7 s7 => ?_⟩
          refine ⟨.bl _, .bl _, rfl, rfl, (dep_bl _), ?_⟩
          rw [same]
          exact k _
end
set_option maxHeartbeats 4000000 in
theorem txt_mk {K : PySem.W.Frag} {h : Heap} {mg : Str → Option Value} (X : K.In h) (G : h.Ns mainGlobals mg)
    {ca0 : Addr}
    {f0 : Addr} {oc0 kV0 dc0 pm0 cd0 ct0 : Value} {od0 an0 : Option Addr} {sl0 : Array (Option Value)}
    {f1 : Addr} {oc1 kV1 dc1 pm1 cd1 ct1 : Value} {od1 an1 : Option Addr} {sl1 : Array (Option Value)}
    {f2 : Addr} {oc2 dc2 pm2 cd2 ct2 : Value} {od2 an2 : Option Addr} {sl2 : Array (Option Value)}
    {kd2 : Addr} {kt2 : Tok}
    {f3 : Addr} {oc3 kV3 dc3 pm3 cd3 ct3 : Value} {od3 an3 : Option Addr} {sl3 : Array (Option Value)}
    {f4 : Addr} {oc4 kV4 dc4 pm4 cd4 ct4 : Value} {od4 an4 : Option Addr} {sl4 : Array (Option Value)}
    {f5 : Addr} {oc5 kV5 dc5 pm5 cd5 ct5 : Value} {od5 an5 : Option Addr} {sl5 : Array (Option Value)}
    {f6 : Addr} {oc6 kV6 dc6 pm6 cd6 ct6 : Value} {od6 an6 : Option Addr} {sl6 : Array (Option Value)}
    {f7 : Addr} {oc7 kV7 dc7 pm7 cd7 ct7 : Value} {od7 an7 : Option Addr} {sl7 : Array (Option Value)}
    {f8 : Addr} {oc8 kV8 dc8 pm8 cd8 ct8 : Value} {od8 an8 : Option Addr} {sl8 : Array (Option Value)}
    {f9 : Addr} {oc9 kV9 dc9 pm9 cd9 ct9 : Value} {od9 an9 : Option Addr} {sl9 : Array (Option Value)}
    {f10 : Addr} {oc10 kV10 dc10 pm10 cd10 ct10 : Value} {od10 an10 : Option Addr} {sl10 : Array (Option Value)}
    {f11 : Addr} {oc11 kV11 dc11 pm11 cd11 ct11 : Value} {od11 an11 : Option Addr} {sl11 : Array (Option Value)}
    {f12 : Addr} {oc12 kV12 dc12 pm12 cd12 ct12 : Value} {od12 an12 : Option Addr} {sl12 : Array (Option Value)}
    {f13 : Addr} {oc13 kV13 dc13 pm13 cd13 ct13 : Value} {od13 an13 : Option Addr} {sl13 : Array (Option Value)}
    {f14 : Addr} {oc14 kV14 dc14 pm14 cd14 ct14 : Value} {od14 an14 : Option Addr} {sl14 : Array (Option Value)}
    {f15 : Addr} {oc15 kV15 dc15 pm15 cd15 ct15 : Value} {od15 an15 : Option Addr} {sl15 : Array (Option Value)}
    {f16 : Addr} {oc16 kV16 dc16 pm16 cd16 ct16 : Value} {od16 an16 : Option Addr} {sl16 : Array (Option Value)}
    {f17 : Addr} {oc17 kV17 dc17 pm17 cd17 ct17 : Value} {od17 an17 : Option Addr} {sl17 : Array (Option Value)}
    {f18 : Addr} {oc18 kV18 dc18 pm18 cd18 ct18 : Value} {od18 an18 : Option Addr} {sl18 : Array (Option Value)}
    {f19 : Addr} {oc19 kV19 dc19 pm19 cd19 ct19 : Value} {od19 an19 : Option Addr} {sl19 : Array (Option Value)}
    {f20 : Addr} {oc20 kV20 dc20 pm20 cd20 ct20 : Value} {od20 an20 : Option Addr} {sl20 : Array (Option Value)}
    {f21 : Addr} {oc21 kV21 dc21 pm21 cd21 ct21 : Value} {od21 an21 : Option Addr} {sl21 : Array (Option Value)}
    {f22 : Addr} {oc22 kV22 dc22 pm22 cd22 ct22 : Value} {od22 an22 : Option Addr} {sl22 : Array (Option Value)}
    {f23 : Addr} {oc23 kV23 dc23 pm23 cd23 ct23 : Value} {od23 an23 : Option Addr} {sl23 : Array (Option Value)}
    {f24 : Addr} {oc24 kV24 dc24 pm24 cd24 ct24 : Value} {od24 an24 : Option Addr} {sl24 : Array (Option Value)}
    {f25 : Addr} {oc25 kV25 dc25 pm25 cd25 ct25 : Value} {od25 an25 : Option Addr} {sl25 : Array (Option Value)}
    {f26 : Addr} {oc26 kV26 dc26 pm26 cd26 ct26 : Value} {od26 an26 : Option Addr} {sl26 : Array (Option Value)}
    {f27 : Addr} {oc27 kV27 dc27 pm27 cd27 ct27 : Value} {od27 an27 : Option Addr} {sl27 : Array (Option Value)}
    {gt0 : Tok}
    {gt1 : Tok}
    {gt2 : Tok}
    {gt3 : Tok}
    {gt4 : Tok}
    {xa0 : Addr}
    {xa1 : Addr}
    {xa2 : Addr}
    (cm0 : PySem.W.nsIn K mainGlobals "Book" = some (some (.ref ca0)))
    (cg0 : PySem.W.plainGet K ca0 Str.empty = true) (ch0 : PySem.W.hasDictIn K ca0 = true) (co0 : PySem.W.plainOver K ca0 = true) (cs0 : PySem.W.findIn K (.ref ca0) "__setattr__" = some (some (.builtin "object.__setattr__")))
    (cn0_0 : PySem.W.findIn K (.ref ca0) "held" = some none)
    (cn0_1 : PySem.W.findIn K (.ref ca0) "next_numbers" = some none)
    (cn0_2 : PySem.W.findIn K (.ref ca0) "done" = some none)
    (a0 : PySem.W.nsIn K mainGlobals "is_whole" = some (some (.ref f0)))
    (l0 : K.lookup f0 = some ⟨oc0, od0, .func (PySem.W.fnOf "is_whole" "is_whole" (defArgs s_is_whole) (defBody s_is_whole) (defScope s_is_whole) .none kV0 dc0 pm0 an0 cd0 ct0), sl0⟩)
    (c0 : PySem.W.codeIn K cd0 "is_whole" = true) (k0 : PySem.W.keepIn K (.ref f0) = true)
    (a1 : PySem.W.nsIn K mainGlobals "is_between" = some (some (.ref f1)))
    (l1 : K.lookup f1 = some ⟨oc1, od1, .func (PySem.W.fnOf "is_between" "is_between" (defArgs s_is_between) (defBody s_is_between) (defScope s_is_between) .none kV1 dc1 pm1 an1 cd1 ct1), sl1⟩)
    (c1 : PySem.W.codeIn K cd1 "is_between" = true) (k1 : PySem.W.keepIn K (.ref f1) = true)
    (a2 : PySem.W.nsIn K mainGlobals "is_order" = some (some (.ref f2)))
    (l2 : K.lookup f2 = some ⟨oc2, od2, .func (PySem.W.fnOf "is_order" "is_order" (defArgs s_is_order) (defBody s_is_order) (defScope s_is_order) .none (.ref kd2) dc2 pm2 an2 cd2 ct2), sl2⟩)
    (c2 : PySem.W.codeIn K cd2 "is_order" = true) (k2 : PySem.W.keepIn K (.ref f2) = true)
    (e2 : PySem.W.nsIn K kd2 "purses" = some (some (.int 8 kt2)))
    (a3 : PySem.W.nsIn K mainGlobals "are_orders" = some (some (.ref f3)))
    (l3 : K.lookup f3 = some ⟨oc3, od3, .func (PySem.W.fnOf "are_orders" "are_orders" (defArgs s_are_orders) (defBody s_are_orders) (defScope s_are_orders) .none kV3 dc3 pm3 an3 cd3 ct3), sl3⟩)
    (c3 : PySem.W.codeIn K cd3 "are_orders" = true) (k3 : PySem.W.keepIn K (.ref f3) = true)
    (a4 : PySem.W.nsIn K mainGlobals "place_of" = some (some (.ref f4)))
    (l4 : K.lookup f4 = some ⟨oc4, od4, .func (PySem.W.fnOf "place_of" "place_of" (defArgs s_place_of) (defBody s_place_of) (defScope s_place_of) .none kV4 dc4 pm4 an4 cd4 ct4), sl4⟩)
    (c4 : PySem.W.codeIn K cd4 "place_of" = true) (k4 : PySem.W.keepIn K (.ref f4) = true)
    (a5 : PySem.W.nsIn K mainGlobals "are_sums" = some (some (.ref f5)))
    (l5 : K.lookup f5 = some ⟨oc5, od5, .func (PySem.W.fnOf "are_sums" "are_sums" (defArgs s_are_sums) (defBody s_are_sums) (defScope s_are_sums) .none kV5 dc5 pm5 an5 cd5 ct5), sl5⟩)
    (c5 : PySem.W.codeIn K cd5 "are_sums" = true) (k5 : PySem.W.keepIn K (.ref f5) = true)
    (a6 : PySem.W.nsIn K mainGlobals "are_first_sums" = some (some (.ref f6)))
    (l6 : K.lookup f6 = some ⟨oc6, od6, .func (PySem.W.fnOf "are_first_sums" "are_first_sums" (defArgs s_are_first_sums) (defBody s_are_first_sums) (defScope s_are_first_sums) .none kV6 dc6 pm6 an6 cd6 ct6), sl6⟩)
    (c6 : PySem.W.codeIn K cd6 "are_first_sums" = true) (k6 : PySem.W.keepIn K (.ref f6) = true)
    (a7 : PySem.W.nsIn K mainGlobals "by_place" = some (some (.ref f7)))
    (l7 : K.lookup f7 = some ⟨oc7, od7, .func (PySem.W.fnOf "by_place" "by_place" (defArgs s_by_place) (defBody s_by_place) (defScope s_by_place) .none kV7 dc7 pm7 an7 cd7 ct7), sl7⟩)
    (c7 : PySem.W.codeIn K cd7 "by_place" = true) (k7 : PySem.W.keepIn K (.ref f7) = true)
    (a8 : PySem.W.nsIn K mainGlobals "check_orders" = some (some (.ref f8)))
    (l8 : K.lookup f8 = some ⟨oc8, od8, .func (PySem.W.fnOf "check_orders" "check_orders" (defArgs s_check_orders) (defBody s_check_orders) (defScope s_check_orders) .none kV8 dc8 pm8 an8 cd8 ct8), sl8⟩)
    (c8 : PySem.W.codeIn K cd8 "check_orders" = true) (k8 : PySem.W.keepIn K (.ref f8) = true)
    (a9 : PySem.W.findIn K (.ref ca0) "__init__" = some (some (.ref f9))) (n9 : PySem.W.isFn K (.ref f9) = true)
    (mk9 : PySem.W.makesIn K ca0 = true) (mq9 : PySem.W.keepIn K (.ref ca0) = true)
    (l9 : K.lookup f9 = some ⟨oc9, od9, .func (PySem.W.fnOf "__init__" "Book.__init__" (defArgs s_Book___init__) (defBody s_Book___init__) (defScope s_Book___init__) .none kV9 dc9 pm9 an9 cd9 ct9), sl9⟩)
    (c9 : PySem.W.codeIn K cd9 "Book.__init__" = true) (k9 : PySem.W.keepIn K (.ref f9) = true)
    (a10 : PySem.W.findIn K (.ref ca0) "is_past" = some (some (.ref f10))) (n10 : PySem.W.isFn K (.ref f10) = true)
    (l10 : K.lookup f10 = some ⟨oc10, od10, .func (PySem.W.fnOf "is_past" "Book.is_past" (defArgs s_Book_is_past) (defBody s_Book_is_past) (defScope s_Book_is_past) .none kV10 dc10 pm10 an10 cd10 ct10), sl10⟩)
    (c10 : PySem.W.codeIn K cd10 "Book.is_past" = true) (k10 : PySem.W.keepIn K (.ref f10) = true)
    (a11 : PySem.W.findIn K (.ref ca0) "is_due" = some (some (.ref f11))) (n11 : PySem.W.isFn K (.ref f11) = true)
    (l11 : K.lookup f11 = some ⟨oc11, od11, .func (PySem.W.fnOf "is_due" "Book.is_due" (defArgs s_Book_is_due) (defBody s_Book_is_due) (defScope s_Book_is_due) .none kV11 dc11 pm11 an11 cd11 ct11), sl11⟩)
    (c11 : PySem.W.codeIn K cd11 "Book.is_due" = true) (k11 : PySem.W.keepIn K (.ref f11) = true)
    (a12 : PySem.W.findIn K (.ref ca0) "settle" = some (some (.ref f12))) (n12 : PySem.W.isFn K (.ref f12) = true)
    (l12 : K.lookup f12 = some ⟨oc12, od12, .func (PySem.W.fnOf "settle" "Book.settle" (defArgs s_Book_settle) (defBody s_Book_settle) (defScope s_Book_settle) .none kV12 dc12 pm12 an12 cd12 ct12), sl12⟩)
    (c12 : PySem.W.codeIn K cd12 "Book.settle" = true) (k12 : PySem.W.keepIn K (.ref f12) = true)
    (a13 : PySem.W.nsIn K mainGlobals "due_orders" = some (some (.ref f13)))
    (l13 : K.lookup f13 = some ⟨oc13, od13, .func (PySem.W.fnOf "due_orders" "due_orders" (defArgs s_due_orders) (defBody s_due_orders) (defScope s_due_orders) .none kV13 dc13 pm13 an13 cd13 ct13), sl13⟩)
    (c13 : PySem.W.codeIn K cd13 "due_orders" = true) (k13 : PySem.W.keepIn K (.ref f13) = true)
    (a14 : PySem.W.nsIn K mainGlobals "book_of" = some (some (.ref f14)))
    (l14 : K.lookup f14 = some ⟨oc14, od14, .func (PySem.W.fnOf "book_of" "book_of" (defArgs s_book_of) (defBody s_book_of) (defScope s_book_of) .none kV14 dc14 pm14 an14 cd14 ct14), sl14⟩)
    (c14 : PySem.W.codeIn K cd14 "book_of" = true) (k14 : PySem.W.keepIn K (.ref f14) = true)
    (a15 : PySem.W.nsIn K mainGlobals "left_in" = some (some (.ref f15)))
    (l15 : K.lookup f15 = some ⟨oc15, od15, .func (PySem.W.fnOf "left_in" "left_in" (defArgs s_left_in) (defBody s_left_in) (defScope s_left_in) .none kV15 dc15 pm15 an15 cd15 ct15), sl15⟩)
    (c15 : PySem.W.codeIn K cd15 "left_in" = true) (k15 : PySem.W.keepIn K (.ref f15) = true)
    (a16 : PySem.W.nsIn K mainGlobals "row_for" = some (some (.ref f16)))
    (l16 : K.lookup f16 = some ⟨oc16, od16, .func (PySem.W.fnOf "row_for" "row_for" (defArgs s_row_for) (defBody s_row_for) (defScope s_row_for) .none kV16 dc16 pm16 an16 cd16 ct16), sl16⟩)
    (c16 : PySem.W.codeIn K cd16 "row_for" = true) (k16 : PySem.W.keepIn K (.ref f16) = true)
    (a17 : PySem.W.nsIn K mainGlobals "left_over" = some (some (.ref f17)))
    (l17 : K.lookup f17 = some ⟨oc17, od17, .func (PySem.W.fnOf "left_over" "left_over" (defArgs s_left_over) (defBody s_left_over) (defScope s_left_over) .none kV17 dc17 pm17 an17 cd17 ct17), sl17⟩)
    (c17 : PySem.W.codeIn K cd17 "left_over" = true) (k17 : PySem.W.keepIn K (.ref f17) = true)
    (a18 : PySem.W.nsIn K mainGlobals "is_row" = some (some (.ref f18)))
    (l18 : K.lookup f18 = some ⟨oc18, od18, .func (PySem.W.fnOf "is_row" "is_row" (defArgs s_is_row) (defBody s_is_row) (defScope s_is_row) .none kV18 dc18 pm18 an18 cd18 ct18), sl18⟩)
    (c18 : PySem.W.codeIn K cd18 "is_row" = true) (k18 : PySem.W.keepIn K (.ref f18) = true)
    (a19 : PySem.W.nsIn K mainGlobals "lack_of" = some (some (.ref f19)))
    (l19 : K.lookup f19 = some ⟨oc19, od19, .func (PySem.W.fnOf "lack_of" "lack_of" (defArgs s_lack_of) (defBody s_lack_of) (defScope s_lack_of) .none kV19 dc19 pm19 an19 cd19 ct19), sl19⟩)
    (c19 : PySem.W.codeIn K cd19 "lack_of" = true) (k19 : PySem.W.keepIn K (.ref f19) = true)
    (a20 : PySem.W.nsIn K mainGlobals "wanting" = some (some (.ref f20)))
    (l20 : K.lookup f20 = some ⟨oc20, od20, .func (PySem.W.fnOf "wanting" "wanting" (defArgs s_wanting) (defBody s_wanting) (defScope s_wanting) .none kV20 dc20 pm20 an20 cd20 ct20), sl20⟩)
    (c20 : PySem.W.codeIn K cd20 "wanting" = true) (k20 : PySem.W.keepIn K (.ref f20) = true)
    (a21 : PySem.W.nsIn K mainGlobals "_law_town" = some (some (.ref f21)))
    (l21 : K.lookup f21 = some ⟨oc21, od21, .func (PySem.W.fnOf "_law_town" "_law_town" (defArgs s__law_town) (defBody s__law_town) (defScope s__law_town) .none kV21 dc21 pm21 an21 cd21 ct21), sl21⟩)
    (c21 : PySem.W.codeIn K cd21 "_law_town" = true) (k21 : PySem.W.keepIn K (.ref f21) = true)
    (a22 : PySem.W.nsIn K mainGlobals "_law_draw" = some (some (.ref f22)))
    (l22 : K.lookup f22 = some ⟨oc22, od22, .func (PySem.W.fnOf "_law_draw" "_law_draw" (defArgs s__law_draw) (defBody s__law_draw) (defScope s__law_draw) .none kV22 dc22 pm22 an22 cd22 ct22), sl22⟩)
    (c22 : PySem.W.codeIn K cd22 "_law_draw" = true) (k22 : PySem.W.keepIn K (.ref f22) = true)
    (a23 : PySem.W.nsIn K mainGlobals "_law_pick" = some (some (.ref f23)))
    (l23 : K.lookup f23 = some ⟨oc23, od23, .func (PySem.W.fnOf "_law_pick" "_law_pick" (defArgs s__law_pick) (defBody s__law_pick) (defScope s__law_pick) .none kV23 dc23 pm23 an23 cd23 ct23), sl23⟩)
    (c23 : PySem.W.codeIn K cd23 "_law_pick" = true) (k23 : PySem.W.keepIn K (.ref f23) = true)
    (a24 : PySem.W.nsIn K mainGlobals "_law_fits" = some (some (.ref f24)))
    (l24 : K.lookup f24 = some ⟨oc24, od24, .func (PySem.W.fnOf "_law_fits" "_law_fits" (defArgs s__law_fits) (defBody s__law_fits) (defScope s__law_fits) .none kV24 dc24 pm24 an24 cd24 ct24), sl24⟩)
    (c24 : PySem.W.codeIn K cd24 "_law_fits" = true) (k24 : PySem.W.keepIn K (.ref f24) = true)
    (a25 : PySem.W.nsIn K mainGlobals "_law_able" = some (some (.ref f25)))
    (l25 : K.lookup f25 = some ⟨oc25, od25, .func (PySem.W.fnOf "_law_able" "_law_able" (defArgs s__law_able) (defBody s__law_able) (defScope s__law_able) .none kV25 dc25 pm25 an25 cd25 ct25), sl25⟩)
    (c25 : PySem.W.codeIn K cd25 "_law_able" = true) (k25 : PySem.W.keepIn K (.ref f25) = true)
    (a26 : PySem.W.nsIn K mainGlobals "_law_settle" = some (some (.ref f26)))
    (l26 : K.lookup f26 = some ⟨oc26, od26, .func (PySem.W.fnOf "_law_settle" "_law_settle" (defArgs s__law_settle) (defBody s__law_settle) (defScope s__law_settle) .none kV26 dc26 pm26 an26 cd26 ct26), sl26⟩)
    (c26 : PySem.W.codeIn K cd26 "_law_settle" = true) (k26 : PySem.W.keepIn K (.ref f26) = true)
    (a27 : PySem.W.nsIn K mainGlobals "law" = some (some (.ref f27)))
    (l27 : K.lookup f27 = some ⟨oc27, od27, .func (PySem.W.fnOf "law" "law" (defArgs s_law) (defBody s_law) (defScope s_law) .none kV27 dc27 pm27 an27 cd27 ct27), sl27⟩)
    (c27 : PySem.W.codeIn K cd27 "law" = true) (k27 : PySem.W.keepIn K (.ref f27) = true)
    (hgc0 : PySem.W.nsIn K mainGlobals "MOST_MUCH" = some (some (.int 1000 gt0)))
    (hgc1 : PySem.W.nsIn K mainGlobals "LAST_NUMBER" = some (some (.int 99 gt1)))
    (hgc2 : PySem.W.nsIn K mainGlobals "MOST_FIRST_SUM" = some (some (.int 1000 gt2)))
    (hgc3 : PySem.W.nsIn K mainGlobals "LEAST_PURSES" = some (some (.int 2 gt3)))
    (hgc4 : PySem.W.nsIn K mainGlobals "MOST_PURSES" = some (some (.int 8 gt4)))
    (xm0 : PySem.W.nsIn K mainGlobals "BadOrder" = some (some (.ref xa0)))
    (xm1 : PySem.W.nsIn K mainGlobals "BadHouses" = some (some (.ref xa1)))
    (xm2 : PySem.W.nsIn K mainGlobals "PurseError" = some (some (.ref xa2)))
    (xr0 : PySem.W.excIn K xa0 vErr "ValueError.__new__" = true)
    (xg0 : PySem.W.findIn K (.ref xa0) "__getattribute__" = some (some (.builtin "BaseException.__getattribute__"))) (xh0 : PySem.W.findIn K (.ref xa0) "__getattr__" = some none) (xj0 : PySem.W.findIn K (.ref xa0) "__class__" = some (some (.builtin "object.__class__")))
    (xp0 : PySem.W.mroIn K xa0 (.type "BaseException") = some true) (xo0 : PySem.W.mroIn K xa0 (.type "object") = some true) (xs0 : (PySem.W.clsIn K xa0).isSome = true)
    (xk0 : kinds K (.ref xa0) [.type "BadNumber", .ref xa0, .ref xa1, .type "NoHouse", .type "NoPurse", .type "NoLetter", .type "NotNow", .type "TooMuch", .type "BadPaper", .type "BadCut", .type "BadText", .ref xa2, .type "ValueError"] = [some false, some true, some false, some false, some false, some false, some false, some false, some false, some false, some false, some true, some true])
    (xr1 : PySem.W.excIn K xa1 vErr "ValueError.__new__" = true)
    (xg1 : PySem.W.findIn K (.ref xa1) "__getattribute__" = some (some (.builtin "BaseException.__getattribute__"))) (xh1 : PySem.W.findIn K (.ref xa1) "__getattr__" = some none) (xj1 : PySem.W.findIn K (.ref xa1) "__class__" = some (some (.builtin "object.__class__")))
    (xp1 : PySem.W.mroIn K xa1 (.type "BaseException") = some true) (xo1 : PySem.W.mroIn K xa1 (.type "object") = some true) (xs1 : (PySem.W.clsIn K xa1).isSome = true)
    (xk1 : kinds K (.ref xa1) [.type "BadNumber", .ref xa0, .ref xa1, .type "NoHouse", .type "NoPurse", .type "NoLetter", .type "NotNow", .type "TooMuch", .type "BadPaper", .type "BadCut", .type "BadText", .ref xa2, .type "ValueError"] = [some false, some false, some true, some false, some false, some false, some false, some false, some false, some false, some false, some true, some true])
    (z0 : PySem.W.nsIn K mainGlobals "isinstance" = some none)
    (z1 : PySem.W.nsIn K mainGlobals "bool" = some none)
    (z2 : PySem.W.nsIn K mainGlobals "int" = some none)
    (z3 : PySem.W.nsIn K mainGlobals "len" = some none)
    (z4 : PySem.W.nsIn K mainGlobals "tuple" = some none)
    (z5 : PySem.W.nsIn K mainGlobals "list" = some none)
    (z6 : PySem.W.nsIn K mainGlobals "all" = some none)
    (z7 : PySem.W.nsIn K mainGlobals "enumerate" = some none)
    (z8 : PySem.W.nsIn K mainGlobals "min" = some none)
    (z9 : PySem.W.nsIn K mainGlobals "sorted" = some none)
    (z10 : PySem.W.nsIn K mainGlobals "set" = some none)
    (z11 : PySem.W.nsIn K mainGlobals "range" = some none) :
    Txt K mg ⟨f0, (PySem.W.fnOf "is_whole" "is_whole" (defArgs s_is_whole) (defBody s_is_whole) (defScope s_is_whole) .none kV0 dc0 pm0 an0 cd0 ct0), f1, (PySem.W.fnOf "is_between" "is_between" (defArgs s_is_between) (defBody s_is_between) (defScope s_is_between) .none kV1 dc1 pm1 an1 cd1 ct1), f2, (PySem.W.fnOf "is_order" "is_order" (defArgs s_is_order) (defBody s_is_order) (defScope s_is_order) .none (.ref kd2) dc2 pm2 an2 cd2 ct2), f3, (PySem.W.fnOf "are_orders" "are_orders" (defArgs s_are_orders) (defBody s_are_orders) (defScope s_are_orders) .none kV3 dc3 pm3 an3 cd3 ct3), f4, (PySem.W.fnOf "place_of" "place_of" (defArgs s_place_of) (defBody s_place_of) (defScope s_place_of) .none kV4 dc4 pm4 an4 cd4 ct4), f5, (PySem.W.fnOf "are_sums" "are_sums" (defArgs s_are_sums) (defBody s_are_sums) (defScope s_are_sums) .none kV5 dc5 pm5 an5 cd5 ct5), f6, (PySem.W.fnOf "are_first_sums" "are_first_sums" (defArgs s_are_first_sums) (defBody s_are_first_sums) (defScope s_are_first_sums) .none kV6 dc6 pm6 an6 cd6 ct6), f7, (PySem.W.fnOf "by_place" "by_place" (defArgs s_by_place) (defBody s_by_place) (defScope s_by_place) .none kV7 dc7 pm7 an7 cd7 ct7), f8, (PySem.W.fnOf "check_orders" "check_orders" (defArgs s_check_orders) (defBody s_check_orders) (defScope s_check_orders) .none kV8 dc8 pm8 an8 cd8 ct8), f9, (PySem.W.fnOf "__init__" "Book.__init__" (defArgs s_Book___init__) (defBody s_Book___init__) (defScope s_Book___init__) .none kV9 dc9 pm9 an9 cd9 ct9), f10, (PySem.W.fnOf "is_past" "Book.is_past" (defArgs s_Book_is_past) (defBody s_Book_is_past) (defScope s_Book_is_past) .none kV10 dc10 pm10 an10 cd10 ct10), f11, (PySem.W.fnOf "is_due" "Book.is_due" (defArgs s_Book_is_due) (defBody s_Book_is_due) (defScope s_Book_is_due) .none kV11 dc11 pm11 an11 cd11 ct11), f12, (PySem.W.fnOf "settle" "Book.settle" (defArgs s_Book_settle) (defBody s_Book_settle) (defScope s_Book_settle) .none kV12 dc12 pm12 an12 cd12 ct12), f13, (PySem.W.fnOf "due_orders" "due_orders" (defArgs s_due_orders) (defBody s_due_orders) (defScope s_due_orders) .none kV13 dc13 pm13 an13 cd13 ct13), f14, (PySem.W.fnOf "book_of" "book_of" (defArgs s_book_of) (defBody s_book_of) (defScope s_book_of) .none kV14 dc14 pm14 an14 cd14 ct14), f15, (PySem.W.fnOf "left_in" "left_in" (defArgs s_left_in) (defBody s_left_in) (defScope s_left_in) .none kV15 dc15 pm15 an15 cd15 ct15), f16, (PySem.W.fnOf "row_for" "row_for" (defArgs s_row_for) (defBody s_row_for) (defScope s_row_for) .none kV16 dc16 pm16 an16 cd16 ct16), f17, (PySem.W.fnOf "left_over" "left_over" (defArgs s_left_over) (defBody s_left_over) (defScope s_left_over) .none kV17 dc17 pm17 an17 cd17 ct17), f18, (PySem.W.fnOf "is_row" "is_row" (defArgs s_is_row) (defBody s_is_row) (defScope s_is_row) .none kV18 dc18 pm18 an18 cd18 ct18), f19, (PySem.W.fnOf "lack_of" "lack_of" (defArgs s_lack_of) (defBody s_lack_of) (defScope s_lack_of) .none kV19 dc19 pm19 an19 cd19 ct19), f20, (PySem.W.fnOf "wanting" "wanting" (defArgs s_wanting) (defBody s_wanting) (defScope s_wanting) .none kV20 dc20 pm20 an20 cd20 ct20), f21, (PySem.W.fnOf "_law_town" "_law_town" (defArgs s__law_town) (defBody s__law_town) (defScope s__law_town) .none kV21 dc21 pm21 an21 cd21 ct21), f22, (PySem.W.fnOf "_law_draw" "_law_draw" (defArgs s__law_draw) (defBody s__law_draw) (defScope s__law_draw) .none kV22 dc22 pm22 an22 cd22 ct22), f23, (PySem.W.fnOf "_law_pick" "_law_pick" (defArgs s__law_pick) (defBody s__law_pick) (defScope s__law_pick) .none kV23 dc23 pm23 an23 cd23 ct23), f24, (PySem.W.fnOf "_law_fits" "_law_fits" (defArgs s__law_fits) (defBody s__law_fits) (defScope s__law_fits) .none kV24 dc24 pm24 an24 cd24 ct24), f25, (PySem.W.fnOf "_law_able" "_law_able" (defArgs s__law_able) (defBody s__law_able) (defScope s__law_able) .none kV25 dc25 pm25 an25 cd25 ct25), f26, (PySem.W.fnOf "_law_settle" "_law_settle" (defArgs s__law_settle) (defBody s__law_settle) (defScope s__law_settle) .none kV26 dc26 pm26 an26 cd26 ct26), f27, (PySem.W.fnOf "law" "law" (defArgs s_law) (defBody s_law) (defScope s_law) .none kV27 dc27 pm27 an27 cd27 ct27), ca0, xa0, xa1, xa2⟩ where
  F_is_whole := fun_mk (st := s_is_whole) l0 c0 k0
  m_is_whole := PySem.W.mg_of X G a0
  b_is_whole := (fun_mk (st := s_is_whole) l0 c0 k0).binds (ps := ["thing"]) fun _ _ _ _ _ _ us hl => match us, hl with | [_], _ => rfl
  F_is_between := fun_mk (st := s_is_between) l1 c1 k1
  m_is_between := PySem.W.mg_of X G a1
  b_is_between := (fun_mk (st := s_is_between) l1 c1 k1).binds (ps := ["thing", "low", "high"]) fun _ _ _ _ _ _ us hl => match us, hl with | [_, _, _], _ => rfl
  F_is_order := fun_mk (st := s_is_order) l2 c2 k2
  m_is_order := PySem.W.mg_of X G a2
  bk0_is_order := ⟨fun s us ws _ hl => match us, ws, hl with | [_], [_], _ => .of_eq rfl, fun {vs us zs ws} r1 r2 => kb_rel11 r1 r2⟩
  bd0_is_order := ⟨_, bd_kw1 e2 rfl rfl rfl rfl rfl rfl rfl (by decide +kernel)⟩
  F_are_orders := fun_mk (st := s_are_orders) l3 c3 k3
  m_are_orders := PySem.W.mg_of X G a3
  bk0_are_orders := ⟨fun s us ws _ hl => match us, ws, hl with | [_], [_], _ => .of_eq rfl, fun {vs us zs ws} r1 r2 => kb_rel11 r1 r2⟩
  F_place_of := fun_mk (st := s_place_of) l4 c4 k4
  m_place_of := PySem.W.mg_of X G a4
  b_place_of := (fun_mk (st := s_place_of) l4 c4 k4).binds (ps := ["order"]) fun _ _ _ _ _ _ us hl => match us, hl with | [_], _ => rfl
  F_are_sums := fun_mk (st := s_are_sums) l5 c5 k5
  m_are_sums := PySem.W.mg_of X G a5
  b_are_sums := (fun_mk (st := s_are_sums) l5 c5 k5).binds (ps := ["thing"]) fun _ _ _ _ _ _ us hl => match us, hl with | [_], _ => rfl
  F_are_first_sums := fun_mk (st := s_are_first_sums) l6 c6 k6
  m_are_first_sums := PySem.W.mg_of X G a6
  b_are_first_sums := (fun_mk (st := s_are_first_sums) l6 c6 k6).binds (ps := ["thing"]) fun _ _ _ _ _ _ us hl => match us, hl with | [_], _ => rfl
  F_by_place := fun_mk (st := s_by_place) l7 c7 k7
  m_by_place := PySem.W.mg_of X G a7
  b_by_place := (fun_mk (st := s_by_place) l7 c7 k7).binds (ps := ["orders"]) fun _ _ _ _ _ _ us hl => match us, hl with | [_], _ => rfl
  F_check_orders := fun_mk (st := s_check_orders) l8 c8 k8
  m_check_orders := PySem.W.mg_of X G a8
  bk0_check_orders := ⟨fun s us ws _ hl => match us, ws, hl with | [_], [_], _ => .of_eq rfl, fun {vs us zs ws} r1 r2 => kb_rel11 r1 r2⟩
  F_Book___init__ := fun_mk (st := s_Book___init__) l9 c9 k9
  mt_Book___init__ := ⟨a9, n9, k9⟩
  mk_Book := ⟨mk9, a9, n9, mq9⟩
  b_Book___init__ := (fun_mk (st := s_Book___init__) l9 c9 k9).binds (ps := ["self", "sums"]) fun _ _ _ _ _ _ us hl => match us, hl with | [_, _], _ => rfl
  F_Book_is_past := fun_mk (st := s_Book_is_past) l10 c10 k10
  mt_Book_is_past := ⟨a10, n10, k10⟩
  b_Book_is_past := (fun_mk (st := s_Book_is_past) l10 c10 k10).binds (ps := ["self", "order"]) fun _ _ _ _ _ _ us hl => match us, hl with | [_, _], _ => rfl
  F_Book_is_due := fun_mk (st := s_Book_is_due) l11 c11 k11
  mt_Book_is_due := ⟨a11, n11, k11⟩
  b_Book_is_due := (fun_mk (st := s_Book_is_due) l11 c11 k11).binds (ps := ["self", "order"]) fun _ _ _ _ _ _ us hl => match us, hl with | [_, _], _ => rfl
  F_Book_settle := fun_mk (st := s_Book_settle) l12 c12 k12
  mt_Book_settle := ⟨a12, n12, k12⟩
  b_Book_settle := (fun_mk (st := s_Book_settle) l12 c12 k12).binds (ps := ["self", "order"]) fun _ _ _ _ _ _ us hl => match us, hl with | [_, _], _ => rfl
  F_due_orders := fun_mk (st := s_due_orders) l13 c13 k13
  m_due_orders := PySem.W.mg_of X G a13
  b_due_orders := (fun_mk (st := s_due_orders) l13 c13 k13).binds (ps := ["places", "book"]) fun _ _ _ _ _ _ us hl => match us, hl with | [_, _], _ => rfl
  F_book_of := fun_mk (st := s_book_of) l14 c14 k14
  m_book_of := PySem.W.mg_of X G a14
  bk0_book_of := ⟨fun s us ws _ hl => match us, ws, hl with | [_], [_], _ => .of_eq rfl, fun {vs us zs ws} r1 r2 => kb_rel11 r1 r2⟩
  F_left_in := fun_mk (st := s_left_in) l15 c15 k15
  m_left_in := PySem.W.mg_of X G a15
  b_left_in := (fun_mk (st := s_left_in) l15 c15 k15).binds (ps := ["book", "orders"]) fun _ _ _ _ _ _ us hl => match us, hl with | [_, _], _ => rfl
  F_row_for := fun_mk (st := s_row_for) l16 c16 k16
  m_row_for := PySem.W.mg_of X G a16
  bk0_row_for := ⟨fun s us ws _ hl => match us, ws, hl with | [_], [_], _ => .of_eq rfl, fun {vs us zs ws} r1 r2 => kb_rel11 r1 r2⟩
  F_left_over := fun_mk (st := s_left_over) l17 c17 k17
  m_left_over := PySem.W.mg_of X G a17
  bk0_left_over := ⟨fun s us ws _ hl => match us, ws, hl with | [_], [_], _ => .of_eq rfl, fun {vs us zs ws} r1 r2 => kb_rel11 r1 r2⟩
  F_is_row := fun_mk (st := s_is_row) l18 c18 k18
  m_is_row := PySem.W.mg_of X G a18
  bk0_is_row := ⟨fun s us ws _ hl => match us, ws, hl with | [_], [_], _ => .of_eq rfl, fun {vs us zs ws} r1 r2 => kb_rel11 r1 r2⟩
  F_lack_of := fun_mk (st := s_lack_of) l19 c19 k19
  m_lack_of := PySem.W.mg_of X G a19
  b_lack_of := (fun_mk (st := s_lack_of) l19 c19 k19).binds (ps := ["purse", "places", "book"]) fun _ _ _ _ _ _ us hl => match us, hl with | [_, _, _], _ => rfl
  F_wanting := fun_mk (st := s_wanting) l20 c20 k20
  m_wanting := PySem.W.mg_of X G a20
  bk0_wanting := ⟨fun s us ws _ hl => match us, ws, hl with | [_], [_], _ => .of_eq rfl, fun {vs us zs ws} r1 r2 => kb_rel11 r1 r2⟩
  F__law_town := fun_mk (st := s__law_town) l21 c21 k21
  m__law_town := PySem.W.mg_of X G a21
  b__law_town := (fun_mk (st := s__law_town) l21 c21 k21).binds (ps := ["_law_script"]) fun _ _ _ _ _ _ us hl => match us, hl with | [_], _ => rfl
  F__law_draw := fun_mk (st := s__law_draw) l22 c22 k22
  m__law_draw := PySem.W.mg_of X G a22
  b__law_draw := (fun_mk (st := s__law_draw) l22 c22 k22).binds (ps := ["_law_town_here", "_law_many"]) fun _ _ _ _ _ _ us hl => match us, hl with | [_, _], _ => rfl
  F__law_pick := fun_mk (st := s__law_pick) l23 c23 k23
  m__law_pick := PySem.W.mg_of X G a23
  b__law_pick := (fun_mk (st := s__law_pick) l23 c23 k23).binds (ps := ["_law_town_here", "_law_some"]) fun _ _ _ _ _ _ us hl => match us, hl with | [_, _], _ => rfl
  F__law_fits := fun_mk (st := s__law_fits) l24 c24 k24
  m__law_fits := PySem.W.mg_of X G a24
  b__law_fits := (fun_mk (st := s__law_fits) l24 c24 k24).binds (ps := ["_law_orders", "_law_begin"]) fun _ _ _ _ _ _ us hl => match us, hl with | [_, _], _ => rfl
  F__law_able := fun_mk (st := s__law_able) l25 c25 k25
  m__law_able := PySem.W.mg_of X G a25
  b__law_able := (fun_mk (st := s__law_able) l25 c25 k25).binds (ps := ["_law_orders", "_law_worth", "_law_nexts"]) fun _ _ _ _ _ _ us hl => match us, hl with | [_, _, _], _ => rfl
  F__law_settle := fun_mk (st := s__law_settle) l26 c26 k26
  m__law_settle := PySem.W.mg_of X G a26
  b__law_settle := (fun_mk (st := s__law_settle) l26 c26 k26).binds (ps := ["_law_town_here", "_law_orders", "_law_begin", "_law_least"]) fun _ _ _ _ _ _ us hl => match us, hl with | [_, _, _, _], _ => rfl
  F_law := fun_mk (st := s_law) l27 c27 k27
  m_law := PySem.W.mg_of X G a27
  b_law := (fun_mk (st := s_law) l27 c27 k27).binds (ps := ["_law_script"]) fun _ _ _ _ _ _ us hl => match us, hl with | [_], _ => rfl
  c_MOST_MUCH := ⟨_, PySem.W.mg_of X G hgc0⟩
  c_LAST_NUMBER := ⟨_, PySem.W.mg_of X G hgc1⟩
  c_MOST_FIRST_SUM := ⟨_, PySem.W.mg_of X G hgc2⟩
  c_LEAST_PURSES := ⟨_, PySem.W.mg_of X G hgc3⟩
  c_MOST_PURSES := ⟨_, PySem.W.mg_of X G hgc4⟩
  m_Book := PySem.W.mg_of X G cm0
  cl_Book := ⟨cg0, ch0, co0, cs0⟩
  na_Book_held := cn0_0
  na_Book_next_numbers := cn0_1
  na_Book_done := cn0_2
  m_BadOrder := PySem.W.mg_of X G xm0
  m_BadHouses := PySem.W.mg_of X G xm1
  m_PurseError := PySem.W.mg_of X G xm2
  x_BadOrder := xr0
  xi_BadOrder := ⟨xg0, xh0, xj0, xp0, xo0, xs0⟩
  xk_BadOrder := xk0
  x_BadHouses := xr1
  xi_BadHouses := ⟨xg1, xh1, xj1, xp1, xo1, xs1⟩
  xk_BadHouses := xk1
  n_isinstance := PySem.W.mg_none_of X G z0
  n_bool := PySem.W.mg_none_of X G z1
  n_int := PySem.W.mg_none_of X G z2
  n_len := PySem.W.mg_none_of X G z3
  n_tuple := PySem.W.mg_none_of X G z4
  n_list := PySem.W.mg_none_of X G z5
  n_all := PySem.W.mg_none_of X G z6
  n_enumerate := PySem.W.mg_none_of X G z7
  n_min := PySem.W.mg_none_of X G z8
  n_sorted := PySem.W.mg_none_of X G z9
  n_set := PySem.W.mg_none_of X G z10
  n_range := PySem.W.mg_none_of X G z11
theorem all_mk {l : PySem.W.OpenLaw} {w : World} {K : PySem.W.Frag} {h : Heap} {mg : Str → Option Value} {fa : Addr} (X : K.In h) (G : h.Ns mainGlobals mg) (hfa : mg "law" = some (.ref fa))
    {ca0 : Addr}
    {f0 : Addr} {oc0 kV0 dc0 pm0 cd0 ct0 : Value} {od0 an0 : Option Addr} {sl0 : Array (Option Value)}
    {f1 : Addr} {oc1 kV1 dc1 pm1 cd1 ct1 : Value} {od1 an1 : Option Addr} {sl1 : Array (Option Value)}
    {f2 : Addr} {oc2 dc2 pm2 cd2 ct2 : Value} {od2 an2 : Option Addr} {sl2 : Array (Option Value)}
    {kd2 : Addr} {kt2 : Tok}
    {f3 : Addr} {oc3 kV3 dc3 pm3 cd3 ct3 : Value} {od3 an3 : Option Addr} {sl3 : Array (Option Value)}
    {f4 : Addr} {oc4 kV4 dc4 pm4 cd4 ct4 : Value} {od4 an4 : Option Addr} {sl4 : Array (Option Value)}
    {f5 : Addr} {oc5 kV5 dc5 pm5 cd5 ct5 : Value} {od5 an5 : Option Addr} {sl5 : Array (Option Value)}
    {f6 : Addr} {oc6 kV6 dc6 pm6 cd6 ct6 : Value} {od6 an6 : Option Addr} {sl6 : Array (Option Value)}
    {f7 : Addr} {oc7 kV7 dc7 pm7 cd7 ct7 : Value} {od7 an7 : Option Addr} {sl7 : Array (Option Value)}
    {f8 : Addr} {oc8 kV8 dc8 pm8 cd8 ct8 : Value} {od8 an8 : Option Addr} {sl8 : Array (Option Value)}
    {f9 : Addr} {oc9 kV9 dc9 pm9 cd9 ct9 : Value} {od9 an9 : Option Addr} {sl9 : Array (Option Value)}
    {f10 : Addr} {oc10 kV10 dc10 pm10 cd10 ct10 : Value} {od10 an10 : Option Addr} {sl10 : Array (Option Value)}
    {f11 : Addr} {oc11 kV11 dc11 pm11 cd11 ct11 : Value} {od11 an11 : Option Addr} {sl11 : Array (Option Value)}
    {f12 : Addr} {oc12 kV12 dc12 pm12 cd12 ct12 : Value} {od12 an12 : Option Addr} {sl12 : Array (Option Value)}
    {f13 : Addr} {oc13 kV13 dc13 pm13 cd13 ct13 : Value} {od13 an13 : Option Addr} {sl13 : Array (Option Value)}
    {f14 : Addr} {oc14 kV14 dc14 pm14 cd14 ct14 : Value} {od14 an14 : Option Addr} {sl14 : Array (Option Value)}
    {f15 : Addr} {oc15 kV15 dc15 pm15 cd15 ct15 : Value} {od15 an15 : Option Addr} {sl15 : Array (Option Value)}
    {f16 : Addr} {oc16 kV16 dc16 pm16 cd16 ct16 : Value} {od16 an16 : Option Addr} {sl16 : Array (Option Value)}
    {f17 : Addr} {oc17 kV17 dc17 pm17 cd17 ct17 : Value} {od17 an17 : Option Addr} {sl17 : Array (Option Value)}
    {f18 : Addr} {oc18 kV18 dc18 pm18 cd18 ct18 : Value} {od18 an18 : Option Addr} {sl18 : Array (Option Value)}
    {f19 : Addr} {oc19 kV19 dc19 pm19 cd19 ct19 : Value} {od19 an19 : Option Addr} {sl19 : Array (Option Value)}
    {f20 : Addr} {oc20 kV20 dc20 pm20 cd20 ct20 : Value} {od20 an20 : Option Addr} {sl20 : Array (Option Value)}
    {f21 : Addr} {oc21 kV21 dc21 pm21 cd21 ct21 : Value} {od21 an21 : Option Addr} {sl21 : Array (Option Value)}
    {f22 : Addr} {oc22 kV22 dc22 pm22 cd22 ct22 : Value} {od22 an22 : Option Addr} {sl22 : Array (Option Value)}
    {f23 : Addr} {oc23 kV23 dc23 pm23 cd23 ct23 : Value} {od23 an23 : Option Addr} {sl23 : Array (Option Value)}
    {f24 : Addr} {oc24 kV24 dc24 pm24 cd24 ct24 : Value} {od24 an24 : Option Addr} {sl24 : Array (Option Value)}
    {f25 : Addr} {oc25 kV25 dc25 pm25 cd25 ct25 : Value} {od25 an25 : Option Addr} {sl25 : Array (Option Value)}
    {f26 : Addr} {oc26 kV26 dc26 pm26 cd26 ct26 : Value} {od26 an26 : Option Addr} {sl26 : Array (Option Value)}
    {f27 : Addr} {oc27 kV27 dc27 pm27 cd27 ct27 : Value} {od27 an27 : Option Addr} {sl27 : Array (Option Value)}
    {gt0 : Tok}
    {gt1 : Tok}
    {gt2 : Tok}
    {gt3 : Tok}
    {gt4 : Tok}
    {xa0 : Addr}
    {xa1 : Addr}
    {xa2 : Addr}
    (cm0 : PySem.W.nsIn K mainGlobals "Book" = some (some (.ref ca0)))
    (cg0 : PySem.W.plainGet K ca0 Str.empty = true) (ch0 : PySem.W.hasDictIn K ca0 = true) (co0 : PySem.W.plainOver K ca0 = true) (cs0 : PySem.W.findIn K (.ref ca0) "__setattr__" = some (some (.builtin "object.__setattr__")))
    (cn0_0 : PySem.W.findIn K (.ref ca0) "held" = some none)
    (cn0_1 : PySem.W.findIn K (.ref ca0) "next_numbers" = some none)
    (cn0_2 : PySem.W.findIn K (.ref ca0) "done" = some none)
    (a0 : PySem.W.nsIn K mainGlobals "is_whole" = some (some (.ref f0)))
    (l0 : K.lookup f0 = some ⟨oc0, od0, .func (PySem.W.fnOf "is_whole" "is_whole" (defArgs s_is_whole) (defBody s_is_whole) (defScope s_is_whole) .none kV0 dc0 pm0 an0 cd0 ct0), sl0⟩)
    (c0 : PySem.W.codeIn K cd0 "is_whole" = true) (k0 : PySem.W.keepIn K (.ref f0) = true)
    (a1 : PySem.W.nsIn K mainGlobals "is_between" = some (some (.ref f1)))
    (l1 : K.lookup f1 = some ⟨oc1, od1, .func (PySem.W.fnOf "is_between" "is_between" (defArgs s_is_between) (defBody s_is_between) (defScope s_is_between) .none kV1 dc1 pm1 an1 cd1 ct1), sl1⟩)
    (c1 : PySem.W.codeIn K cd1 "is_between" = true) (k1 : PySem.W.keepIn K (.ref f1) = true)
    (a2 : PySem.W.nsIn K mainGlobals "is_order" = some (some (.ref f2)))
    (l2 : K.lookup f2 = some ⟨oc2, od2, .func (PySem.W.fnOf "is_order" "is_order" (defArgs s_is_order) (defBody s_is_order) (defScope s_is_order) .none (.ref kd2) dc2 pm2 an2 cd2 ct2), sl2⟩)
    (c2 : PySem.W.codeIn K cd2 "is_order" = true) (k2 : PySem.W.keepIn K (.ref f2) = true)
    (e2 : PySem.W.nsIn K kd2 "purses" = some (some (.int 8 kt2)))
    (a3 : PySem.W.nsIn K mainGlobals "are_orders" = some (some (.ref f3)))
    (l3 : K.lookup f3 = some ⟨oc3, od3, .func (PySem.W.fnOf "are_orders" "are_orders" (defArgs s_are_orders) (defBody s_are_orders) (defScope s_are_orders) .none kV3 dc3 pm3 an3 cd3 ct3), sl3⟩)
    (c3 : PySem.W.codeIn K cd3 "are_orders" = true) (k3 : PySem.W.keepIn K (.ref f3) = true)
    (a4 : PySem.W.nsIn K mainGlobals "place_of" = some (some (.ref f4)))
    (l4 : K.lookup f4 = some ⟨oc4, od4, .func (PySem.W.fnOf "place_of" "place_of" (defArgs s_place_of) (defBody s_place_of) (defScope s_place_of) .none kV4 dc4 pm4 an4 cd4 ct4), sl4⟩)
    (c4 : PySem.W.codeIn K cd4 "place_of" = true) (k4 : PySem.W.keepIn K (.ref f4) = true)
    (a5 : PySem.W.nsIn K mainGlobals "are_sums" = some (some (.ref f5)))
    (l5 : K.lookup f5 = some ⟨oc5, od5, .func (PySem.W.fnOf "are_sums" "are_sums" (defArgs s_are_sums) (defBody s_are_sums) (defScope s_are_sums) .none kV5 dc5 pm5 an5 cd5 ct5), sl5⟩)
    (c5 : PySem.W.codeIn K cd5 "are_sums" = true) (k5 : PySem.W.keepIn K (.ref f5) = true)
    (a6 : PySem.W.nsIn K mainGlobals "are_first_sums" = some (some (.ref f6)))
    (l6 : K.lookup f6 = some ⟨oc6, od6, .func (PySem.W.fnOf "are_first_sums" "are_first_sums" (defArgs s_are_first_sums) (defBody s_are_first_sums) (defScope s_are_first_sums) .none kV6 dc6 pm6 an6 cd6 ct6), sl6⟩)
    (c6 : PySem.W.codeIn K cd6 "are_first_sums" = true) (k6 : PySem.W.keepIn K (.ref f6) = true)
    (a7 : PySem.W.nsIn K mainGlobals "by_place" = some (some (.ref f7)))
    (l7 : K.lookup f7 = some ⟨oc7, od7, .func (PySem.W.fnOf "by_place" "by_place" (defArgs s_by_place) (defBody s_by_place) (defScope s_by_place) .none kV7 dc7 pm7 an7 cd7 ct7), sl7⟩)
    (c7 : PySem.W.codeIn K cd7 "by_place" = true) (k7 : PySem.W.keepIn K (.ref f7) = true)
    (a8 : PySem.W.nsIn K mainGlobals "check_orders" = some (some (.ref f8)))
    (l8 : K.lookup f8 = some ⟨oc8, od8, .func (PySem.W.fnOf "check_orders" "check_orders" (defArgs s_check_orders) (defBody s_check_orders) (defScope s_check_orders) .none kV8 dc8 pm8 an8 cd8 ct8), sl8⟩)
    (c8 : PySem.W.codeIn K cd8 "check_orders" = true) (k8 : PySem.W.keepIn K (.ref f8) = true)
    (a9 : PySem.W.findIn K (.ref ca0) "__init__" = some (some (.ref f9))) (n9 : PySem.W.isFn K (.ref f9) = true)
    (mk9 : PySem.W.makesIn K ca0 = true) (mq9 : PySem.W.keepIn K (.ref ca0) = true)
    (l9 : K.lookup f9 = some ⟨oc9, od9, .func (PySem.W.fnOf "__init__" "Book.__init__" (defArgs s_Book___init__) (defBody s_Book___init__) (defScope s_Book___init__) .none kV9 dc9 pm9 an9 cd9 ct9), sl9⟩)
    (c9 : PySem.W.codeIn K cd9 "Book.__init__" = true) (k9 : PySem.W.keepIn K (.ref f9) = true)
    (a10 : PySem.W.findIn K (.ref ca0) "is_past" = some (some (.ref f10))) (n10 : PySem.W.isFn K (.ref f10) = true)
    (l10 : K.lookup f10 = some ⟨oc10, od10, .func (PySem.W.fnOf "is_past" "Book.is_past" (defArgs s_Book_is_past) (defBody s_Book_is_past) (defScope s_Book_is_past) .none kV10 dc10 pm10 an10 cd10 ct10), sl10⟩)
    (c10 : PySem.W.codeIn K cd10 "Book.is_past" = true) (k10 : PySem.W.keepIn K (.ref f10) = true)
    (a11 : PySem.W.findIn K (.ref ca0) "is_due" = some (some (.ref f11))) (n11 : PySem.W.isFn K (.ref f11) = true)
    (l11 : K.lookup f11 = some ⟨oc11, od11, .func (PySem.W.fnOf "is_due" "Book.is_due" (defArgs s_Book_is_due) (defBody s_Book_is_due) (defScope s_Book_is_due) .none kV11 dc11 pm11 an11 cd11 ct11), sl11⟩)
    (c11 : PySem.W.codeIn K cd11 "Book.is_due" = true) (k11 : PySem.W.keepIn K (.ref f11) = true)
    (a12 : PySem.W.findIn K (.ref ca0) "settle" = some (some (.ref f12))) (n12 : PySem.W.isFn K (.ref f12) = true)
    (l12 : K.lookup f12 = some ⟨oc12, od12, .func (PySem.W.fnOf "settle" "Book.settle" (defArgs s_Book_settle) (defBody s_Book_settle) (defScope s_Book_settle) .none kV12 dc12 pm12 an12 cd12 ct12), sl12⟩)
    (c12 : PySem.W.codeIn K cd12 "Book.settle" = true) (k12 : PySem.W.keepIn K (.ref f12) = true)
    (a13 : PySem.W.nsIn K mainGlobals "due_orders" = some (some (.ref f13)))
    (l13 : K.lookup f13 = some ⟨oc13, od13, .func (PySem.W.fnOf "due_orders" "due_orders" (defArgs s_due_orders) (defBody s_due_orders) (defScope s_due_orders) .none kV13 dc13 pm13 an13 cd13 ct13), sl13⟩)
    (c13 : PySem.W.codeIn K cd13 "due_orders" = true) (k13 : PySem.W.keepIn K (.ref f13) = true)
    (a14 : PySem.W.nsIn K mainGlobals "book_of" = some (some (.ref f14)))
    (l14 : K.lookup f14 = some ⟨oc14, od14, .func (PySem.W.fnOf "book_of" "book_of" (defArgs s_book_of) (defBody s_book_of) (defScope s_book_of) .none kV14 dc14 pm14 an14 cd14 ct14), sl14⟩)
    (c14 : PySem.W.codeIn K cd14 "book_of" = true) (k14 : PySem.W.keepIn K (.ref f14) = true)
    (a15 : PySem.W.nsIn K mainGlobals "left_in" = some (some (.ref f15)))
    (l15 : K.lookup f15 = some ⟨oc15, od15, .func (PySem.W.fnOf "left_in" "left_in" (defArgs s_left_in) (defBody s_left_in) (defScope s_left_in) .none kV15 dc15 pm15 an15 cd15 ct15), sl15⟩)
    (c15 : PySem.W.codeIn K cd15 "left_in" = true) (k15 : PySem.W.keepIn K (.ref f15) = true)
    (a16 : PySem.W.nsIn K mainGlobals "row_for" = some (some (.ref f16)))
    (l16 : K.lookup f16 = some ⟨oc16, od16, .func (PySem.W.fnOf "row_for" "row_for" (defArgs s_row_for) (defBody s_row_for) (defScope s_row_for) .none kV16 dc16 pm16 an16 cd16 ct16), sl16⟩)
    (c16 : PySem.W.codeIn K cd16 "row_for" = true) (k16 : PySem.W.keepIn K (.ref f16) = true)
    (a17 : PySem.W.nsIn K mainGlobals "left_over" = some (some (.ref f17)))
    (l17 : K.lookup f17 = some ⟨oc17, od17, .func (PySem.W.fnOf "left_over" "left_over" (defArgs s_left_over) (defBody s_left_over) (defScope s_left_over) .none kV17 dc17 pm17 an17 cd17 ct17), sl17⟩)
    (c17 : PySem.W.codeIn K cd17 "left_over" = true) (k17 : PySem.W.keepIn K (.ref f17) = true)
    (a18 : PySem.W.nsIn K mainGlobals "is_row" = some (some (.ref f18)))
    (l18 : K.lookup f18 = some ⟨oc18, od18, .func (PySem.W.fnOf "is_row" "is_row" (defArgs s_is_row) (defBody s_is_row) (defScope s_is_row) .none kV18 dc18 pm18 an18 cd18 ct18), sl18⟩)
    (c18 : PySem.W.codeIn K cd18 "is_row" = true) (k18 : PySem.W.keepIn K (.ref f18) = true)
    (a19 : PySem.W.nsIn K mainGlobals "lack_of" = some (some (.ref f19)))
    (l19 : K.lookup f19 = some ⟨oc19, od19, .func (PySem.W.fnOf "lack_of" "lack_of" (defArgs s_lack_of) (defBody s_lack_of) (defScope s_lack_of) .none kV19 dc19 pm19 an19 cd19 ct19), sl19⟩)
    (c19 : PySem.W.codeIn K cd19 "lack_of" = true) (k19 : PySem.W.keepIn K (.ref f19) = true)
    (a20 : PySem.W.nsIn K mainGlobals "wanting" = some (some (.ref f20)))
    (l20 : K.lookup f20 = some ⟨oc20, od20, .func (PySem.W.fnOf "wanting" "wanting" (defArgs s_wanting) (defBody s_wanting) (defScope s_wanting) .none kV20 dc20 pm20 an20 cd20 ct20), sl20⟩)
    (c20 : PySem.W.codeIn K cd20 "wanting" = true) (k20 : PySem.W.keepIn K (.ref f20) = true)
    (a21 : PySem.W.nsIn K mainGlobals "_law_town" = some (some (.ref f21)))
    (l21 : K.lookup f21 = some ⟨oc21, od21, .func (PySem.W.fnOf "_law_town" "_law_town" (defArgs s__law_town) (defBody s__law_town) (defScope s__law_town) .none kV21 dc21 pm21 an21 cd21 ct21), sl21⟩)
    (c21 : PySem.W.codeIn K cd21 "_law_town" = true) (k21 : PySem.W.keepIn K (.ref f21) = true)
    (a22 : PySem.W.nsIn K mainGlobals "_law_draw" = some (some (.ref f22)))
    (l22 : K.lookup f22 = some ⟨oc22, od22, .func (PySem.W.fnOf "_law_draw" "_law_draw" (defArgs s__law_draw) (defBody s__law_draw) (defScope s__law_draw) .none kV22 dc22 pm22 an22 cd22 ct22), sl22⟩)
    (c22 : PySem.W.codeIn K cd22 "_law_draw" = true) (k22 : PySem.W.keepIn K (.ref f22) = true)
    (a23 : PySem.W.nsIn K mainGlobals "_law_pick" = some (some (.ref f23)))
    (l23 : K.lookup f23 = some ⟨oc23, od23, .func (PySem.W.fnOf "_law_pick" "_law_pick" (defArgs s__law_pick) (defBody s__law_pick) (defScope s__law_pick) .none kV23 dc23 pm23 an23 cd23 ct23), sl23⟩)
    (c23 : PySem.W.codeIn K cd23 "_law_pick" = true) (k23 : PySem.W.keepIn K (.ref f23) = true)
    (a24 : PySem.W.nsIn K mainGlobals "_law_fits" = some (some (.ref f24)))
    (l24 : K.lookup f24 = some ⟨oc24, od24, .func (PySem.W.fnOf "_law_fits" "_law_fits" (defArgs s__law_fits) (defBody s__law_fits) (defScope s__law_fits) .none kV24 dc24 pm24 an24 cd24 ct24), sl24⟩)
    (c24 : PySem.W.codeIn K cd24 "_law_fits" = true) (k24 : PySem.W.keepIn K (.ref f24) = true)
    (a25 : PySem.W.nsIn K mainGlobals "_law_able" = some (some (.ref f25)))
    (l25 : K.lookup f25 = some ⟨oc25, od25, .func (PySem.W.fnOf "_law_able" "_law_able" (defArgs s__law_able) (defBody s__law_able) (defScope s__law_able) .none kV25 dc25 pm25 an25 cd25 ct25), sl25⟩)
    (c25 : PySem.W.codeIn K cd25 "_law_able" = true) (k25 : PySem.W.keepIn K (.ref f25) = true)
    (a26 : PySem.W.nsIn K mainGlobals "_law_settle" = some (some (.ref f26)))
    (l26 : K.lookup f26 = some ⟨oc26, od26, .func (PySem.W.fnOf "_law_settle" "_law_settle" (defArgs s__law_settle) (defBody s__law_settle) (defScope s__law_settle) .none kV26 dc26 pm26 an26 cd26 ct26), sl26⟩)
    (c26 : PySem.W.codeIn K cd26 "_law_settle" = true) (k26 : PySem.W.keepIn K (.ref f26) = true)
    (a27 : PySem.W.nsIn K mainGlobals "law" = some (some (.ref f27)))
    (l27 : K.lookup f27 = some ⟨oc27, od27, .func (PySem.W.fnOf "law" "law" (defArgs s_law) (defBody s_law) (defScope s_law) .none kV27 dc27 pm27 an27 cd27 ct27), sl27⟩)
    (c27 : PySem.W.codeIn K cd27 "law" = true) (k27 : PySem.W.keepIn K (.ref f27) = true)
    (hgc0 : PySem.W.nsIn K mainGlobals "MOST_MUCH" = some (some (.int 1000 gt0)))
    (hgc1 : PySem.W.nsIn K mainGlobals "LAST_NUMBER" = some (some (.int 99 gt1)))
    (hgc2 : PySem.W.nsIn K mainGlobals "MOST_FIRST_SUM" = some (some (.int 1000 gt2)))
    (hgc3 : PySem.W.nsIn K mainGlobals "LEAST_PURSES" = some (some (.int 2 gt3)))
    (hgc4 : PySem.W.nsIn K mainGlobals "MOST_PURSES" = some (some (.int 8 gt4)))
    (xm0 : PySem.W.nsIn K mainGlobals "BadOrder" = some (some (.ref xa0)))
    (xm1 : PySem.W.nsIn K mainGlobals "BadHouses" = some (some (.ref xa1)))
    (xm2 : PySem.W.nsIn K mainGlobals "PurseError" = some (some (.ref xa2)))
    (xr0 : PySem.W.excIn K xa0 vErr "ValueError.__new__" = true)
    (xg0 : PySem.W.findIn K (.ref xa0) "__getattribute__" = some (some (.builtin "BaseException.__getattribute__"))) (xh0 : PySem.W.findIn K (.ref xa0) "__getattr__" = some none) (xj0 : PySem.W.findIn K (.ref xa0) "__class__" = some (some (.builtin "object.__class__")))
    (xp0 : PySem.W.mroIn K xa0 (.type "BaseException") = some true) (xo0 : PySem.W.mroIn K xa0 (.type "object") = some true) (xs0 : (PySem.W.clsIn K xa0).isSome = true)
    (xk0 : kinds K (.ref xa0) [.type "BadNumber", .ref xa0, .ref xa1, .type "NoHouse", .type "NoPurse", .type "NoLetter", .type "NotNow", .type "TooMuch", .type "BadPaper", .type "BadCut", .type "BadText", .ref xa2, .type "ValueError"] = [some false, some true, some false, some false, some false, some false, some false, some false, some false, some false, some false, some true, some true])
    (xr1 : PySem.W.excIn K xa1 vErr "ValueError.__new__" = true)
    (xg1 : PySem.W.findIn K (.ref xa1) "__getattribute__" = some (some (.builtin "BaseException.__getattribute__"))) (xh1 : PySem.W.findIn K (.ref xa1) "__getattr__" = some none) (xj1 : PySem.W.findIn K (.ref xa1) "__class__" = some (some (.builtin "object.__class__")))
    (xp1 : PySem.W.mroIn K xa1 (.type "BaseException") = some true) (xo1 : PySem.W.mroIn K xa1 (.type "object") = some true) (xs1 : (PySem.W.clsIn K xa1).isSome = true)
    (xk1 : kinds K (.ref xa1) [.type "BadNumber", .ref xa0, .ref xa1, .type "NoHouse", .type "NoPurse", .type "NoLetter", .type "NotNow", .type "TooMuch", .type "BadPaper", .type "BadCut", .type "BadText", .ref xa2, .type "ValueError"] = [some false, some false, some true, some false, some false, some false, some false, some false, some false, some false, some false, some true, some true])
    (z0 : PySem.W.nsIn K mainGlobals "isinstance" = some none)
    (z1 : PySem.W.nsIn K mainGlobals "bool" = some none)
    (z2 : PySem.W.nsIn K mainGlobals "int" = some none)
    (z3 : PySem.W.nsIn K mainGlobals "len" = some none)
    (z4 : PySem.W.nsIn K mainGlobals "tuple" = some none)
    (z5 : PySem.W.nsIn K mainGlobals "list" = some none)
    (z6 : PySem.W.nsIn K mainGlobals "all" = some none)
    (z7 : PySem.W.nsIn K mainGlobals "enumerate" = some none)
    (z8 : PySem.W.nsIn K mainGlobals "min" = some none)
    (z9 : PySem.W.nsIn K mainGlobals "sorted" = some none)
    (z10 : PySem.W.nsIn K mainGlobals "set" = some none)
    (z11 : PySem.W.nsIn K mainGlobals "range" = some none) :
    ∃ fd : FuncData, (∀ (s : Shared) (v : Value), BindsTo s fd ⟨[v], []⟩ [("_law_script", v)]) ∧ ∀ base : Heap, K.In base → base.Ns mainGlobals mg → FnOk l.prog w K mg base CX0 12 fa fd ["_law_script"] (sp_law K) := by
  have T := txt_mk X G cm0 cg0 ch0 co0 cs0 cn0_0 cn0_1 cn0_2 a0 l0 c0 k0 a1 l1 c1 k1 a2 l2 c2 k2 e2 a3 l3 c3 k3 a4 l4 c4 k4 a5 l5 c5 k5 a6 l6 c6 k6 a7 l7 c7 k7 a8 l8 c8 k8 a9 n9 mk9 mq9 l9 c9 k9 a10 n10 l10 c10 k10 a11 n11 l11 c11 k11 a12 n12 l12 c12 k12 a13 l13 c13 k13 a14 l14 c14 k14 a15 l15 c15 k15 a16 l16 c16 k16 a17 l17 c17 k17 a18 l18 c18 k18 a19 l19 c19 k19 a20 l20 c20 k20 a21 l21 c21 k21 a22 l22 c22 k22 a23 l23 c23 k23 a24 l24 c24 k24 a25 l25 c25 k25 a26 l26 c26 k26 a27 l27 c27 k27 hgc0 hgc1 hgc2 hgc3 hgc4 xm0 xm1 xm2 xr0 xg0 xh0 xj0 xp0 xo0 xs0 xk0 xr1 xg1 xh1 xj1 xp1 xo1 xs1 xk1 z0 z1 z2 z3 z4 z5 z6 z7 z8 z9 z10 z11
  have e := hfa.symm.trans T.m_law
  cases e
  exact ⟨_, fun s v => .of_eq rfl, fun base _ _ => ok_law T⟩
end M
/-! The hand-in's compiled file may not be greater than 64 MB. The head makes, beside the heaps and trees that it writes out, second ones that this proof doesn't use, and proofs that grow with the square of their objects; these names, taken ahead, keep it from that. -/
def PySem.W.Fast.tw2533952835308260554 : Unit := ()
def PySem.W.Fast.tw16319416969817778437 : Unit := ()
def PySem.W.Fast.tw4924285682031416018 : Unit := ()
def PySem.W.Fast.tw5761840491168399731 : Unit := ()
def PySem.W.Fast.tw17466340285659103211 : Unit := ()
def PySem.W.Fast.tw9561122398111565524 : Unit := ()
def PySem.W.Fast.tw2074478311108735464 : Unit := ()
open PySem PySem.W PyProof.Rows
set_option maxRecDepth 100000 in
set_option maxHeartbeats 0 in
theorem PySem.Challenge.cw_manypurses_k19_whole_audits_holds : PySem.Challenge.rw_manypurses_k19_whole_audits.Holds := by
  w_on; o_law; k_head; (case hw => w_witness2)
  k_fill
  refine L2.walk_ofK (l := PySem.Challenge.rw_manypurses_k19_whole_audits) (n := 63) (k := 12) (x := "_law_script") (CX := L2.CX0) (sp := M.sp_law) rfl (by decide) rfl ⟨rfl, by decide, by decide⟩ (fun w h Y => PySem.W.kIn_of Y) ?F ?S ?C
  case F =>
    intro w mg fa h KX G hmg
    refine' M.all_mk KX G hmg ?cm0 ?cg0 ?ch0 ?co0 ?cs0 ?cn0_0 ?cn0_1 ?cn0_2 ?a0 ?l0 ?c0 ?k0 ?a1 ?l1 ?c1 ?k1 ?a2 ?l2 ?c2 ?k2 ?e2 ?a3 ?l3 ?c3 ?k3 ?a4 ?l4 ?c4 ?k4 ?a5 ?l5 ?c5 ?k5 ?a6 ?l6 ?c6 ?k6 ?a7 ?l7 ?c7 ?k7 ?a8 ?l8 ?c8 ?k8 ?a9 ?n9 ?mk9 ?mq9 ?l9 ?c9 ?k9 ?a10 ?n10 ?l10 ?c10 ?k10 ?a11 ?n11 ?l11 ?c11 ?k11 ?a12 ?n12 ?l12 ?c12 ?k12 ?a13 ?l13 ?c13 ?k13 ?a14 ?l14 ?c14 ?k14 ?a15 ?l15 ?c15 ?k15 ?a16 ?l16 ?c16 ?k16 ?a17 ?l17 ?c17 ?k17 ?a18 ?l18 ?c18 ?k18 ?a19 ?l19 ?c19 ?k19 ?a20 ?l20 ?c20 ?k20 ?a21 ?l21 ?c21 ?k21 ?a22 ?l22 ?c22 ?k22 ?a23 ?l23 ?c23 ?k23 ?a24 ?l24 ?c24 ?k24 ?a25 ?l25 ?c25 ?k25 ?a26 ?l26 ?c26 ?k26 ?a27 ?l27 ?c27 ?k27 ?hgc0 ?hgc1 ?hgc2 ?hgc3 ?hgc4 ?xm0 ?xm1 ?xm2 ?xr0 ?xg0 ?xh0 ?xj0 ?xp0 ?xo0 ?xs0 ?xk0 ?xr1 ?xg1 ?xh1 ?xj1 ?xp1 ?xo1 ?xs1 ?xk1 ?z0 ?z1 ?z2 ?z3 ?z4 ?z5 ?z6 ?z7 ?z8 ?z9 ?z10 ?z11
    (case cm0 => k_is)
    (case cg0 => k_is)
    (case ch0 => k_is)
    (case co0 => k_is)
    (case cs0 => k_is)
    (case cn0_0 => k_is)
    (case cn0_1 => k_is)
    (case cn0_2 => k_is)
    (case a0 => k_is)
    (case l0 => k_is)
    (case c0 => k_is)
    (case k0 => k_is)
    (case a1 => k_is)
    (case l1 => k_is)
    (case c1 => k_is)
    (case k1 => k_is)
    (case a2 => k_is)
    (case l2 => k_is)
    (case c2 => k_is)
    (case k2 => k_is)
    (case e2 => k_is)
    (case a3 => k_is)
    (case l3 => k_is)
    (case c3 => k_is)
    (case k3 => k_is)
    (case a4 => k_is)
    (case l4 => k_is)
    (case c4 => k_is)
    (case k4 => k_is)
    (case a5 => k_is)
    (case l5 => k_is)
    (case c5 => k_is)
    (case k5 => k_is)
    (case a6 => k_is)
    (case l6 => k_is)
    (case c6 => k_is)
    (case k6 => k_is)
    (case a7 => k_is)
    (case l7 => k_is)
    (case c7 => k_is)
    (case k7 => k_is)
    (case a8 => k_is)
    (case l8 => k_is)
    (case c8 => k_is)
    (case k8 => k_is)
    (case a9 => k_is)
    (case n9 => k_is)
    (case mk9 => k_is)
    (case mq9 => k_is)
    (case l9 => k_is)
    (case c9 => k_is)
    (case k9 => k_is)
    (case a10 => k_is)
    (case n10 => k_is)
    (case l10 => k_is)
    (case c10 => k_is)
    (case k10 => k_is)
    (case a11 => k_is)
    (case n11 => k_is)
    (case l11 => k_is)
    (case c11 => k_is)
    (case k11 => k_is)
    (case a12 => k_is)
    (case n12 => k_is)
    (case l12 => k_is)
    (case c12 => k_is)
    (case k12 => k_is)
    (case a13 => k_is)
    (case l13 => k_is)
    (case c13 => k_is)
    (case k13 => k_is)
    (case a14 => k_is)
    (case l14 => k_is)
    (case c14 => k_is)
    (case k14 => k_is)
    (case a15 => k_is)
    (case l15 => k_is)
    (case c15 => k_is)
    (case k15 => k_is)
    (case a16 => k_is)
    (case l16 => k_is)
    (case c16 => k_is)
    (case k16 => k_is)
    (case a17 => k_is)
    (case l17 => k_is)
    (case c17 => k_is)
    (case k17 => k_is)
    (case a18 => k_is)
    (case l18 => k_is)
    (case c18 => k_is)
    (case k18 => k_is)
    (case a19 => k_is)
    (case l19 => k_is)
    (case c19 => k_is)
    (case k19 => k_is)
    (case a20 => k_is)
    (case l20 => k_is)
    (case c20 => k_is)
    (case k20 => k_is)
    (case a21 => k_is)
    (case l21 => k_is)
    (case c21 => k_is)
    (case k21 => k_is)
    (case a22 => k_is)
    (case l22 => k_is)
    (case c22 => k_is)
    (case k22 => k_is)
    (case a23 => k_is)
    (case l23 => k_is)
    (case c23 => k_is)
    (case k23 => k_is)
    (case a24 => k_is)
    (case l24 => k_is)
    (case c24 => k_is)
    (case k24 => k_is)
    (case a25 => k_is)
    (case l25 => k_is)
    (case c25 => k_is)
    (case k25 => k_is)
    (case a26 => k_is)
    (case l26 => k_is)
    (case c26 => k_is)
    (case k26 => k_is)
    (case a27 => k_is)
    (case l27 => k_is)
    (case c27 => k_is)
    (case k27 => k_is)
    (case hgc0 => k_is)
    (case hgc1 => k_is)
    (case hgc2 => k_is)
    (case hgc3 => k_is)
    (case hgc4 => k_is)
    (case xm0 => k_is)
    (case xm1 => k_is)
    (case xm2 => k_is)
    (case xr0 => kernel_rfl)
    (case xg0 => k_is)
    (case xh0 => k_is)
    (case xj0 => k_is)
    (case xp0 => k_is)
    (case xo0 => k_is)
    (case xs0 => kernel_rfl)
    (case xk0 => kernel_rfl)
    (case xr1 => kernel_rfl)
    (case xg1 => k_is)
    (case xh1 => k_is)
    (case xj1 => k_is)
    (case xp1 => k_is)
    (case xo1 => k_is)
    (case xs1 => kernel_rfl)
    (case xk1 => kernel_rfl)
    (case z0 => k_is)
    (case z1 => k_is)
    (case z2 => k_is)
    (case z3 => k_is)
    (case z4 => k_is)
    (case z5 => k_is)
    (case z6 => k_is)
    (case z7 => k_is)
    (case z8 => k_is)
    (case z9 => k_is)
    (case z10 => k_is)
    (case z11 => k_is)
  case S => exact fun K H a ns hl _ hS => ⟨a, ns, rfl, hS, hl, fun _ => rfl⟩
  case C => exact fun _ _ _ _ z => z
