

import PyProof.Rows.All
import Wide.All
import OpenK.AllK
import Wide.FinOn
import Lean
import PyProof.EqAt
import PyProof.EqKinds
import PyProof.TupleCall
import PyProof.NeKinds
import PySem.Challenge.RW_manypurses_k16_wallets_refused
set_option Elab.async false
set_option linter.all false
set_option maxRecDepth 100000
/-! THE HAND LAYER, for ints, bools, texts, own classes, LISTS and tuples (index, slices, in, append, pop ..), calls, loops. Paste it whole ahead of your own text; what your proof does not reach may be deleted. -/
namespace L2
open PySem PySem.Spec PyProof.Rows

/-- a key: an int or a str -/
abbrev Key := Sum Int Str
def keyIs : Key → Value → Bool
  | .inl k, v => Value.isInt k v
  | .inr x, v => Value.isStrOf x v
def keyH (w : World) : Key → Int
  | .inl k => hashInt k
  | .inr x => hashStr w x
theorem keyIs_shape : ∀ {k : Key} {v : Value}, keyIs k v = true → (∃ i t, k = Sum.inl i ∧ v = Value.int i t) ∨ (∃ x t, k = Sum.inr x ∧ v = Value.str x t)
  | .inl i, v, h => by
    obtain ⟨t, e⟩ := Value.isInt_shape (k := i) (v := v) h
    exact .inl ⟨i, t, rfl, e⟩
  | .inr x, v, h => by
    obtain ⟨t, e⟩ := Value.isStrOf_shape (x := x) (v := v) h
    exact .inr ⟨x, t, rfl, e⟩
theorem keyIs_int (i : Int) (t : Tok) : keyIs (.inl i) (.int i t) = true := by simp [keyIs, Value.isInt]
theorem keyIs_str (x : Str) (t : Tok) : keyIs (.inr x) (.str x t) = true := by simp [keyIs, Value.isStrOf]
theorem key_ll (a b : Int) : decide ((Sum.inl a : Key) = Sum.inl b) = (a == b) := by
  by_cases e : a = b
  · subst e; simp
  · have h : ¬ (Sum.inl a : Key) = Sum.inl b := fun q => e (Sum.inl.inj q)
    rw [decide_eq_false h]
    exact (beq_eq_false_iff_ne.mpr e).symm
theorem key_rr (a b : Str) : decide ((Sum.inr a : Key) = Sum.inr b) = decide (a = b) := by
  by_cases e : a = b
  · subst e; simp
  · have h : ¬ (Sum.inr a : Key) = Sum.inr b := fun q => e (Sum.inr.inj q)
    rw [decide_eq_false h, decide_eq_false e]
theorem key_lr (a : Int) (b : Str) : decide ((Sum.inl a : Key) = Sum.inr b) = false := decide_eq_false (fun q => nomatch q)
theorem key_rl (a : Str) (b : Int) : decide ((Sum.inr a : Key) = Sum.inl b) = false := decide_eq_false (fun q => nomatch q)

def mixKind (prog : Program) (w : World) : PySem.KeyKind prog w Key where
  is := keyIs
  hash := keyH w
  inj := fun v a b ha hb => by
    rcases keyIs_shape ha with ⟨i, t, rfl, rfl⟩ | ⟨x, t, rfl, rfl⟩
    · rcases keyIs_shape hb with ⟨j, u, rfl, e⟩ | ⟨y, u, rfl, e⟩
      · injection e with e1 _; rw [e1]
      · exact nomatch e
    · rcases keyIs_shape hb with ⟨j, u, rfl, e⟩ | ⟨y, u, rfl, e⟩
      · exact nomatch e
      · injection e with e1 _; rw [e1]
  byValue := fun k v h => by
    rcases keyIs_shape h with ⟨i, t, rfl, rfl⟩ | ⟨x, t, rfl, rfl⟩ <;> rfl
  pyHash := fun hv h => by
    rcases keyIs_shape hv with ⟨i, t, rfl, rfl⟩ | ⟨x, t, rfl, rfl⟩
    · exact wpAny_pyHash_int h
    · exact wpAny_pyHash_str h
  eqBool := fun hu hv h => by
    rcases keyIs_shape hu with ⟨i, t, rfl, rfl⟩ | ⟨x, t, rfl, rfl⟩
    · rcases keyIs_shape hv with ⟨j, u, rfl, rfl⟩ | ⟨y, u, rfl, rfl⟩
      · rw [key_ll] at h; exact wpAny_eqBool_int h
      · rw [key_lr] at h; exact SeqAt.EqAt.int_str i t y u _ _ _ _ h
    · rcases keyIs_shape hv with ⟨j, u, rfl, rfl⟩ | ⟨y, u, rfl, rfl⟩
      · rw [key_rl] at h; exact SeqAt.EqAt.str_int x t j u _ _ _ _ h
      · rw [key_rr] at h; exact wpAny_eqBool_str h
  «strs» := fun k x t v h => by
    rcases keyIs_shape h with ⟨i, u, rfl, e⟩ | ⟨y, u, rfl, e⟩
    · exact nomatch e
    · injection e with e1 _
      subst e1
      cases v <;> rfl

theorem mixKind_int (prog : Program) (w : World) (i : Int) (t : Tok) : (mixKind prog w).is (.inl i) (.int i t) = true := keyIs_int i t
theorem mixKind_str (prog : Program) (w : World) (x : Str) (t : Tok) : (mixKind prog w).is (.inr x) (.str x t) = true := keyIs_str x t
end L2

namespace L2
open PySem PySem.Spec PyProof.Rows

/-- a value, without the heap -/
inductive V where
  | non | bl (b : Bool) | int (i : Int) | str (x : Str) | byt (b : Array UInt8) | flt (b : UInt64) | ref (a : Addr) | ty (n : String)
  deriving DecidableEq

def RelV : V → Value → Prop
  | .non, u => u = Value.none
  | .bl b, u => u = Value.bool b
  | .int i, u => ∃ t, u = Value.int i t
  | .str x, u => ∃ t, u = Value.str x t
  | .byt b, u => ∃ t, u = Value.bytes b t
  | .flt b, u => ∃ t, u = Value.float b t
  | .ref a, u => u = Value.ref a
  | .ty n, u => u = Value.type n

abbrev Vals : List V → List Value → Prop := Paired RelV
theorem Vals.length {xs : List V} {us : List Value} (r : Vals xs us) : xs.length = us.length := Paired.length r
theorem Vals.get : ∀ {xs : List V} {us : List Value} {i : Nat} {x : V}, Vals xs us → xs[i]? = some x → ∃ u, us[i]? = some u ∧ RelV x u
  | _, _, _, _, .nil, e => by simp at e
  | _, _, 0, _, .cons r _, e => by simp at e; subst e; exact ⟨_, rfl, r⟩
  | _, _, i + 1, x, .cons _ t, e => by
    obtain ⟨u, h1, h2⟩ := Vals.get (i := i) (x := x) t (by simpa using e)
    exact ⟨u, by simpa using h1, h2⟩
theorem Vals.set {x : V} {u : Value} (r : RelV x u) : ∀ {xs : List V} {us : List Value} (i : Nat), Vals xs us → Vals (xs.set i x) (us.set i u)
  | _, _, _, .nil => .nil
  | _, _, 0, .cons _ t => .cons r t
  | _, _, i + 1, .cons q t => .cons q (Vals.set r i t)
theorem Vals.append : ∀ {xs ys : List V} {us ws : List Value}, Vals xs us → Vals ys ws → Vals (xs ++ ys) (us ++ ws)
  | _, _, _, _, .nil, s => s
  | _, _, _, _, .cons r t, s => .cons r (Vals.append t s)
theorem Vals.take : ∀ {xs : List V} {us : List Value} (n : Nat), Vals xs us → Vals (xs.take n) (us.take n)
  | _, _, 0, _ => .nil
  | _, _, _ + 1, .nil => .nil
  | _, _, n + 1, .cons r t => .cons r (Vals.take n t)
theorem Vals.drop : ∀ {xs : List V} {us : List Value} (n : Nat), Vals xs us → Vals (xs.drop n) (us.drop n)
  | _, _, 0, r => r
  | _, _, _ + 1, .nil => .nil
  | _, _, n + 1, .cons _ t => Vals.drop n t
theorem Vals.none_of : ∀ {xs : List V} {us : List Value} {i : Nat}, Vals xs us → xs[i]? = none → us[i]? = none := fun {xs us i} r e => by
  have h1 := r.length
  have h2 : xs.length ≤ i := List.getElem?_eq_none_iff.mp e
  exact List.getElem?_eq_none_iff.mpr (by omega)

def RelO : Option V → Option Value → Prop
  | some v, some u => RelV v u
  | none, none => True
  | _, _ => False
def KV {κ : Type} : List (κ × V) → List (κ × Value) → Prop := Paired fun (p : κ × V) (q : κ × Value) => p.1 = q.1 ∧ RelV p.2 q.2

/-- a key of a dict (00_mix): an int or a text -/
def kV : Key → V
  | .inl i => .int i
  | .inr x => .str x

/-- what stands at a tracked address -/
inductive HO where
  /-- a list -/
  | lst (xs : List V)
  /-- a tuple (never changes) -/
  | tup (xs : List V)
  /-- a dict whose keys are ints and texts; one whose keys are tuples of ints and texts (the empty one is both) -/
  | dK (kvs : List (Key × V)) | dT (kvs : List (List Key × V))
  /-- a set of ints: its members, its size -/
  | set (S : Int → Bool) (n : Nat)
  /-- an instance of the class at C, its dict at dx, its attributes -/
  | ins (C dx : Addr) (fs : List (Str × V))
  /-- the dict of the instance at x -/
  | own (x : Addr)
  /-- the dict of an exception -/
  | xd (fs : List (Str × V))
  /-- a bound method, f of x -/
  | met (f x : Addr)
  /-- a range object lo, lo + 1, .. below hi -/
  | rng (lo hi : Int)
  /-- a thing that is known to the object (the script; a dict while a loop walks it): read, never written while it is so -/
  | frz (o : Obj) (u : HO)
  /-- a code object's table -/
  | tbl (ps : Array Value)
  /-- any other thing, by what is true of its one object (a def of one's own: SetO a S n := HO.ext fun h => ..) -/
  | ext (φ : Heap → Prop)

abbrev Hp := Addr → Option HO
def upd (H : Hp) (a : Addr) (o : HO) : Hp := fun b => if b = a then some o else H b
theorem upd_same {H : Hp} {a : Addr} {o : HO} : upd H a o a = some o := by unfold upd; rw [if_pos rfl]
theorem upd_ne {H : Hp} {a b : Addr} {o : HO} (h : b ≠ a) : upd H a o b = H b := by unfold upd; rw [if_neg h]
theorem upd_upd {H : Hp} {a : Addr} {o u : HO} : upd (upd H a o) a u = upd H a u := by
  funext b; unfold upd; split <;> rfl
/-- two objects of different content stand apart -/
theorem ne_of {H : Hp} {a b : Addr} {o u : HO} (h : H a = some o) (h' : H b = some u) (d : o ≠ u) : a ≠ b := by
  intro e; subst e; rw [h] at h'; exact d (Option.some.inj h')
theorem ne_of_none {H : Hp} {a b : Addr} {o : HO} (h : H a = some o) (h' : H b = none) : a ≠ b := by
  intro e; subst e; rw [h] at h'; cases h'

section
variable (P : Program) (w : World)
def ObjOk (H : Hp) (h : Heap) (a : Addr) : HO → Prop
  | .lst xs => xs.length ≤ sizeLine ∧ ∃ (its : List Value) (n : Nat), Vals xs its ∧ h.get? a = some { cls := .type "list", data := .seq its.toArray n }
  | .tup xs => xs.length ≤ sizeLine ∧ ∃ its : List Value, Vals xs its ∧ IsTup h a its.toArray
  | .dK kvs => kvs.length ≤ sizeLine ∧ (a == sysModules) = false ∧ ∃ vs, KV kvs vs ∧ h.DictOf (mixKind P w) a vs
  | .dT kvs => kvs.length ≤ sizeLine ∧ (a == sysModules) = false ∧ ∃ xs : List (List Key × Addr × Value),
      Paired (fun (p : List Key × V) (q : List Key × Addr × Value) => p.1 = q.1 ∧ H q.2.1 = some (.tup (p.1.map kV)) ∧ RelV p.2 q.2.2) kvs xs ∧
      ∃ o es ep, h.get? a = some o ∧ o.ExactDict ∧ o.data = .dict es ep ∧ es.toList = xs.map (entryOfKey (tupleKind (mixKind P w))) ∧ (xs.map (·.1)).Nodup
  | .set S n => h.SetOf (intKind P w) a S n
  | .ins C dx fs => H dx = some (.own a) ∧ fs.length ≤ 1000 ∧ dx ≠ a ∧ h.get? a = some (PySem.W.instObj C dx) ∧
      ∃ mA, h.Ns1 dx mA ∧ (∀ f, RelO (fs.lookup f) (mA f)) ∧ PySem.Within mA (fs.map (·.1))
  | .own _ => ∃ o, h.get? a = some o
  | .xd fs => ∃ mA, h.Ns1 a mA ∧ ∀ f, RelO (fs.lookup f) (mA f)
  | .rng lo hi => ∃ t u v, h.get? a = some { cls := .type "range", data := .fields #[.int lo t, .int hi u, .int 1 v] }
  | .frz o u => h.get? a = some o ∧ ObjOk H h a u
  | .tbl ps => h.get? a = some { cls := .none, data := .fields ps }
  | .met f x => h.get? a = some (PySem.W.methodObj (.ref f) (.ref x))
  | .ext φ => φ h ∧ (∃ o, h.get? a = some o) ∧ ∀ h1 h2 : Heap, φ h1 → (∀ o, h1.get? a = some o → h2.get? a = some o) → φ h2
/-- the abstract heap is held -/
def HOk (H : Hp) (h : Heap) : Prop := ∀ a o, H a = some o → ObjOk P w H h a o
end

section
variable {P : Program} {w : World} {H H' : Hp} {h h' : Heap} {a : Addr} {o : HO}
theorem ObjOk.lt (x : ObjOk P w H h a o) : a < h.objs.size := by
  cases o with
  | lst xs => obtain ⟨_, _, _, _, e⟩ := x; exact Heap.lt_size e
  | tup xs => obtain ⟨_, _, _, p⟩ := x; exact p.lt
  | dK kvs => obtain ⟨_, _, _, _, o, _, _, e, _⟩ := x; exact Heap.lt_size e
  | dT kvs => obtain ⟨_, _, _, _, o, _, _, e, _⟩ := x; exact Heap.lt_size e
  | set S n => obtain ⟨o, _, _, _, e, _⟩ := x; exact Heap.lt_size e
  | ins C dx fs => obtain ⟨_, _, _, e, _⟩ := x; exact Heap.lt_size e
  | own y => obtain ⟨_, e⟩ := x; exact Heap.lt_size e
  | xd fs => obtain ⟨_, ⟨_, _, _, e, _⟩, _⟩ := x; exact Heap.lt_size e
  | rng lo hi => obtain ⟨_, _, _, e⟩ := x; exact Heap.lt_size e
  | frz ob u => obtain ⟨e, _⟩ := x; exact Heap.lt_size e
  | tbl ps => exact Heap.lt_size (show h.get? a = some _ from x)
  | met f y => exact Heap.lt_size (show h.get? a = some _ from x)
  | ext φ => obtain ⟨_, ⟨_, e⟩, _⟩ := x; exact Heap.lt_size e
theorem Paired.mapP {α β : Type} {F G : α → β → Prop} : ∀ {l₁ : List α} {l₂ : List β}, Paired F l₁ l₂ → (∀ a b, F a b → G a b) → Paired G l₁ l₂
  | _, _, .nil, _ => .nil
  | _, _, .cons r t, f => .cons (f _ _ r) (Paired.mapP t f)
/-- what an object's description leans on: its own object, its own dict, the tuples -/
theorem ObjOk.stay (x : ObjOk P w H h a o) (k : ∀ b u, (b = a ∨ H b = some (.own a)) → h.get? b = some u → h'.get? b = some u)
    (ho : ∀ b, H b = some (.own a) → H' b = some (.own a)) (ht : ∀ b xs, H b = some (.tup xs) → H' b = some (.tup xs)) : ObjOk P w H' h' a o := by
  induction o with
  | lst xs => obtain ⟨z, its, n, r, e⟩ := x; exact ⟨z, its, n, r, k _ _ (.inl rfl) e⟩
  | tup xs => obtain ⟨z, its, r, ob, e, c⟩ := x; exact ⟨z, its, r, ob, k _ _ (.inl rfl) e, c⟩
  | dK kvs => obtain ⟨z, y, vs, r, ob, es, ep, e, c⟩ := x; exact ⟨z, y, vs, r, ob, es, ep, k _ _ (.inl rfl) e, c⟩
  | dT kvs =>
    obtain ⟨z, y, xs, r, ob, es, ep, e, c⟩ := x
    exact ⟨z, y, xs, Paired.mapP r fun p q z => ⟨z.1, ht _ _ z.2.1, z.2.2⟩, ob, es, ep, k _ _ (.inl rfl) e, c⟩
  | set S n => obtain ⟨ob, es, ep, t, e, c⟩ := x; exact ⟨ob, es, ep, t, k _ _ (.inl rfl) e, c⟩
  | ins C dx fs =>
    obtain ⟨d, z, ne, e, mA, ⟨od, es, ep, e2, c⟩, r⟩ := x
    exact ⟨ho _ d, z, ne, k _ _ (.inl rfl) e, mA, ⟨od, es, ep, k _ _ (.inr d) e2, c⟩, r⟩
  | own y => obtain ⟨ob, e⟩ := x; exact ⟨ob, k _ _ (.inl rfl) e⟩
  | xd fs => obtain ⟨mA, ⟨od, es, ep, e, c⟩, r⟩ := x; exact ⟨mA, ⟨od, es, ep, k _ _ (.inl rfl) e, c⟩, r⟩
  | rng lo hi => obtain ⟨t, u, v, e⟩ := x; exact ⟨t, u, v, k _ _ (.inl rfl) e⟩
  | frz ob u ih => obtain ⟨e, q⟩ := x; exact ⟨k _ _ (.inl rfl) e, ih q⟩
  | tbl ps =>
    have e : h.get? a = some { cls := .none, data := .fields ps } := x
    show h'.get? a = some { cls := .none, data := .fields ps }
    exact k a _ (.inl rfl) e
  | met f y =>
    have e : h.get? a = some (PySem.W.methodObj (.ref f) (.ref y)) := x
    show h'.get? a = some (PySem.W.methodObj (.ref f) (.ref y))
    exact k a _ (.inl rfl) e
  | ext φ => obtain ⟨p, ⟨o, e⟩, st⟩ := x; exact ⟨st _ _ p fun o q => k _ _ (.inl rfl) q, ⟨o, k _ _ (.inl rfl) e⟩, st⟩
theorem HOk.lt (x : HOk P w H h) (e : H a = some o) : a < h.objs.size := (x a o e).lt
theorem HOk.fresh (x : HOk P w H h) (e : h.objs.size ≤ a) : H a = none := by
  cases q : H a with
  | none => rfl
  | some u => exact absurd (Nat.lt_of_lt_of_le (x.lt q) e) (Nat.lt_irrefl _)
/-- every object of the heap is kept -/
theorem HOk.kept (x : HOk P w H h) (k : ∀ b u, h.get? b = some u → h'.get? b = some u) : HOk P w H h' := fun a o e =>
  (x a o e).stay (fun b u _ q => k b u q) (fun _ q => q) fun _ _ q => q
/-- a new object is laid and tracked -/
theorem HOk.laid (x : HOk P w H h) (k : ∀ b u, h.get? b = some u → h'.get? b = some u) (hp : h.objs.size ≤ a) (new : ObjOk P w (upd H a o) h' a o) : HOk P w (upd H a o) h' := fun b u e => by
  have hn := x.fresh hp
  by_cases hb : b = a
  · subst hb; rw [upd_same] at e; cases e; exact new
  · rw [upd_ne hb] at e
    exact (x b u e).stay (fun c v _ q => k c v q) (fun c q => by rw [upd_ne (ne_of_none q hn)]; exact q) fun c xs q => by rw [upd_ne (ne_of_none q hn)]; exact q
end

/-- what may be read as u: it is u, or a known u -/
def Rd (H : Hp) (a : Addr) (u : HO) : Prop := H a = some u ∨ ∃ o, H a = some (.frz o u)
theorem Rd.of {H : Hp} {a : Addr} {u : HO} (h : H a = some u) : Rd H a u := .inl h
theorem Rd.ok {P : Program} {w : World} {H : Hp} {h : Heap} {a : Addr} {u : HO} (r : Rd H a u) (x : HOk P w H h) : ObjOk P w H h a u := by
  rcases r with r | ⟨o, r⟩
  · exact x a u r
  · obtain ⟨_, q⟩ := x a _ r
    exact q
/-- what may be written -/
def Mut : Option HO → Prop
  | some (.lst _) => True
  | some (.dK _) => True
  | some (.dT _) => True
  | some (.set _ _) => True
  | some (.ins _ _ _) => True
  | some (.ext _) => True
  | _ => False
section
variable {P : Program} {w : World} {H : Hp} {h h' : Heap} {x e : Addr} {o' : HO}
/-- the object at e is changed: x itself, or the dict of the instance x -/
theorem HOk.write (ok : HOk P w H h) (mu : Mut (H x)) (he : e = x ∨ H e = some (.own x)) (k : ∀ b u, b ≠ e → h.get? b = some u → h'.get? b = some u) (heo : ∃ u, h'.get? e = some u)
    (new : ObjOk P w (upd H x o') h' x o') : HOk P w (upd H x o') h' := fun b u q => by
  have nown : ∀ c y, H c = some (.own y) → c ≠ x := fun c y r z => by subst z; rw [r] at mu; exact mu
  have ntup : ∀ c xs, H c = some (.tup xs) → c ≠ x := fun c xs r z => by subst z; rw [r] at mu; exact mu
  by_cases hb : b = x
  · subst hb; rw [upd_same] at q; cases q; exact new
  · rw [upd_ne hb] at q
    by_cases hbe : b = e
    · have q' : H b = some (.own x) := by
        rcases he with z | z
        · exact absurd (hbe.trans z) hb
        · rw [hbe]; exact z
      rw [q] at q'; cases q'
      obtain ⟨v, hv⟩ := heo
      exact ⟨v, by rw [hbe]; exact hv⟩
    · refine (ok b u q).stay (fun c v hc r => k c v ?_ r) (fun c r => by rw [upd_ne (nown c b r)]; exact r) fun c xs r => by rw [upd_ne (ntup c xs r)]; exact r
      rcases hc with rfl | hc
      · exact hbe
      · rintro rfl
        rcases he with z | z
        · exact nown c b hc z
        · rw [hc] at z; cases z; exact hb rfl
end

/-! ### kept unless tracked; of the frames at fs (the callers') the slots may change (an exception that passes writes there); of the records at ex (iterators) nothing is said -/
structure Un (fs ex : List Addr) (H H' : Hp) (h h' : Heap) : Prop where
  keep : ∀ b o, h.get? b = some o → H b = none → b ∉ fs → b ∉ ex → h'.get? b = some o
  slot : ∀ b o, h.get? b = some o → H b = none → b ∈ fs → b ∉ ex → ∃ sl, h'.get? b = some { o with slots := sl }
  free : ∀ b o, h.get? b = some o → H b = none → b ∉ ex → H' b = none
  there : ∀ b o, h.get? b = some o → b ∉ ex → ∃ o', h'.get? b = some o'
  tups : ∀ b xs, H b = some (.tup xs) → H' b = some (.tup xs)
  frzs : ∀ b o u, H b = some (.frz o u) → H' b = some (.frz o u)
  tbls : ∀ b ps, H b = some (.tbl ps) → ∃ more, H' b = some (.tbl (ps ++ more))
section
variable {fs fs' ex ex' : List Addr} {H H1 H2 : Hp} {h h1 h2 h' : Heap} {a x e : Addr} {o : HO}
theorem Un.any (u : Un fs ex H H1 h h1) {b : Addr} {ob : Obj} (q : h.get? b = some ob) (n : H b = none) (hx : b ∉ ex) : ∃ sl, h1.get? b = some { ob with slots := sl } := by
  by_cases hb : b ∈ fs
  · exact u.slot b ob q n hb hx
  · exact ⟨ob.slots, u.keep b ob q n hb hx⟩
theorem Un.trans (a : Un fs ex H H1 h h1) (b : Un fs ex H1 H2 h1 h2) : Un fs ex H H2 h h2 where
  keep := fun c ob q n hc hx => b.keep c ob (a.keep c ob q n hc hx) (a.free c ob q n hx) hc hx
  slot := fun c ob q n hc hx => by
    obtain ⟨sl, e1⟩ := a.slot c ob q n hc hx
    obtain ⟨sl', e2⟩ := b.slot c _ e1 (a.free c ob q n hx) hc hx
    exact ⟨sl', e2⟩
  free := fun c ob q n hx => by
    obtain ⟨o', e1⟩ := a.there c ob q hx
    exact b.free c o' e1 (a.free c ob q n hx) hx
  there := fun c ob q hx => by
    obtain ⟨o', e1⟩ := a.there c ob q hx
    exact b.there c o' e1 hx
  tups := fun c xs q => b.tups c xs (a.tups c xs q)
  frzs := fun c ob xs q => b.frzs c ob xs (a.frzs c ob xs q)
  tbls := fun c ps q => by
    obtain ⟨m1, e1⟩ := a.tbls c ps q
    obtain ⟨m2, e2⟩ := b.tbls c _ e1
    exact ⟨m1 ++ m2, by rw [e2, Array.append_assoc]⟩
theorem Un.kept (k : ∀ b u, h.get? b = some u → h'.get? b = some u) : Un fs ex H H h h' :=
  ⟨fun b ob q _ _ _ => k b ob q, fun b ob q _ _ _ => ⟨ob.slots, k b ob q⟩, fun _ _ _ n _ => n, fun b ob q _ => ⟨ob, k b ob q⟩, fun _ _ q => q, fun _ _ _ q => q, fun _ ps q => ⟨#[], by rw [q]; simp⟩⟩
theorem Un.refl : Un fs ex H H h h := Un.kept fun _ _ q => q
theorem Un.laid (k : ∀ b u, h.get? b = some u → h'.get? b = some u) (hp : h.objs.size ≤ a) (hn : H a = none) : Un fs ex H (upd H a o) h h' where
  keep := fun b u q _ _ _ => k b u q
  slot := fun b u q _ _ _ => ⟨u.slots, k b u q⟩
  free := fun b u q n _ => by rw [upd_ne (Nat.ne_of_lt (Nat.lt_of_lt_of_le (Heap.lt_size q) hp))]; exact n
  there := fun b u q _ => ⟨u, k b u q⟩
  tups := fun b xs q => by rw [upd_ne (ne_of_none q hn)]; exact q
  frzs := fun b u xs q => by rw [upd_ne (ne_of_none q hn)]; exact q
  tbls := fun b ps q => ⟨#[], by rw [upd_ne (ne_of_none q hn), q]; simp⟩
theorem Un.write (mu : Mut (H x)) (he : e = x ∨ H e = some (.own x)) (k : ∀ b u, b ≠ e → h.get? b = some u → h'.get? b = some u) (heo : ∃ u, h'.get? e = some u) : Un fs ex H (upd H x o) h h' := by
  have hx : ∀ b, H b = none → b ≠ x := fun b n z => by subst z; rw [n] at mu; exact mu
  have hb : ∀ b, H b = none → b ≠ e := fun b n z => by
    subst z
    rcases he with r | r
    · exact hx b n r
    · rw [n] at r; cases r
  have hm : ∀ b u, H b = some u → ¬ Mut (some u) → b ≠ x := fun b u q nm z => by subst z; rw [q] at mu; exact nm mu
  refine ⟨fun b u q n _ _ => k b u (hb b n) q, fun b u q n _ _ => ⟨u.slots, k b u (hb b n) q⟩, fun b u q n _ => by rw [upd_ne (hx b n)]; exact n, fun b u q _ => ?_,
    fun b xs q => by rw [upd_ne (hm b _ q fun z => z)]; exact q, fun b u xs q => by rw [upd_ne (hm b _ q fun z => z)]; exact q, fun b ps q => ⟨#[], by rw [upd_ne (hm b _ q fun z => z), q]; simp⟩⟩
  by_cases hbe : b = e
  · subst hbe; exact heo
  · exact ⟨u, k b u hbe q⟩
theorem Un.mono (u : Un fs ex H H1 h h1) (hs : ∀ b ∈ fs, b ∈ fs') (hx : ∀ b ∈ ex, b ∈ ex') : Un fs' ex' H H1 h h1 :=
  ⟨fun b ob q n hb he => u.keep b ob q n (fun z => hb (hs b z)) fun z => he (hx b z), fun _ _ q n _ he => u.any q n fun z => he (hx _ z), fun b ob q n he => u.free b ob q n fun z => he (hx b z), fun b ob q he => u.there b ob q fun z => he (hx b z), u.tups, u.frzs, u.tbls⟩
end

/-! ### the heap without what is tracked -/
def trk (h : Heap) (H : Hp) : List Addr := (List.range h.objs.size).filter fun a => (H a).isSome
def hidT (h : Heap) (H : Hp) : Heap := PySem.W.hideAll h (trk h H)
theorem hidT_size (h : Heap) (H : Hp) : (hidT h H).objs.size = h.objs.size := PySem.W.hideAll_size _ _
theorem hidT_get {h : Heap} {H : Hp} {b : Addr} {o : Obj} (e : h.get? b = some o) (n : H b = none) : (hidT h H).get? b = some o :=
  PySem.W.hideAll_get _ e fun hm => by
    have q : (H b).isSome = true := (List.mem_filter.mp hm).2
    rw [n] at q; simp at q
theorem of_hidT {h : Heap} {H : Hp} {b : Addr} {o : Obj} (e : (hidT h H).get? b = some o) : h.get? b = some o ∧ H b = none := by
  have e' : h.get? b = some o := PySem.W.of_hideAll (trk h H) e
  refine ⟨e', ?_⟩
  cases q : H b with
  | none => rfl
  | some x =>
    have hm : b ∈ trk h H := List.mem_filter.mpr ⟨List.mem_range.mpr (Heap.lt_size e'), by simp [q]⟩
    have z : (hidT h H).get? b = none := PySem.W.hideAll_none (trk h H) hm
    rw [z] at e; cases e

/-! ### OpenK's ledger, filled with every new object but one -/
def allNews (g h : Heap) (L : Addr) : List (Addr × Obj) := (List.range h.objs.size).filterMap fun a => if a = L ∨ (g.get? a).isSome = true then none else (h.get? a).map fun o => (a, o)
def rest (g h : Heap) (L d : Addr) : List (Addr × Obj) := (allNews g h L).filter fun p => decide (p.1 ≠ d)
end L2

namespace L2
open PySem PySem.Spec PyProof.Rows

/-- the module's facts, over the base: the heap at the law's entry without what is tracked there -/
structure Mod (K : PySem.W.Frag) (mg : Str → Option Value) (base : Heap) : Prop where
  kin : K.In base
  glob : base.Ns mainGlobals mg
  blt : ∃ mb, base.Ns builtinsNs mb ∧ ∀ x : Str, x ≠ "__name__" → mb x = bootBuiltins x
  nolimit : base.NoLimit

/-- the context: a def's body (or a comprehension's block) running. base: fixed through the whole law; s₀, H₀: the entry; outer: the frames whose slots others may change (a def's callers); stack: all frames that run;
   ex: iterators that were made ahead of the entry and are walked here (a comprehension's); fn: the names whose cells were made at the entry (a def: all; a comprehension's block: its own); calm: not within an except suite; pn: pins that every state bears; xe: what is wanted of an exception that leaves the code -/
structure Cx where
  prog : Program
  w : World
  K : PySem.W.Frag
  mg : Str → Option Value
  base : Heap
  A : Around
  N : List Str
  s₀ : Shared
  H₀ : Hp
  env : Env
  outer : List Env
  stack : List Env
  ex : List Addr
  fn : Str → Bool
  calm : Bool
  pn : List (Addr × Obj)
  xe : Value → Shared → Prop
/-- the callers' frames -/
def frs (l : List Env) : List Addr := l.filterMap (·.frame)
abbrev Cx.fs (X : Cx) : List Addr := frs X.outer

def Vis (sc : Scope) (x : Str) : Prop := sc.names.lookup x = some .local ∨ sc.names.lookup x = some .cell ∨ sc.names.lookup x = some .free
def Loc (sc : Scope) (x : Str) : Prop := sc.names.lookup x = some .local ∨ sc.names.lookup x = some .cell
def Look (env : Env) (h : Heap) (m : Str → Option Value) (x : Str) (u : Value) : Prop :=
  (env.kindOf x = some .local ∧ m x = some u) ∨ ((env.kindOf x = some .cell ∨ env.kindOf x = some .free) ∧ ∃ c, env.cells.lookup x = some c ∧ h.IsCell c (some u))

structure Cx.Ok (X : Cx) : Prop where
  mod : Mod X.K X.mg X.base
  kind : X.env.scope.kind = .function
  glob : X.env.globals = mainGlobals
  blt : X.env.builtins = builtinsNs
  above : X.s₀.heap.objs.size ≤ X.env.locals
  inj : ∀ x y c, X.env.cells.lookup x = some c → X.env.cells.lookup y = some c → x = y
  has : ∀ x, (X.env.kindOf x = some .cell ∨ X.env.kindOf x = some .free) → ∃ c, X.env.cells.lookup x = some c
  cab : ∀ x c, X.fn x = true → X.env.cells.lookup x = some c → X.s₀.heap.objs.size ≤ c
  hd : X.calm = true → X.A.handled = none
  frames : X.A.frames = some X.stack
  stk : X.stack = X.outer ∨ (X.stack = X.env :: X.outer ∧ X.env.frame = some X.env.locals)
  exf : ∀ b ∈ X.ex, b ≠ X.env.locals ∧ ∀ x c, X.env.cells.lookup x = some c → c ≠ b
  bs : ∀ b o, X.base.get? b = some o → X.s₀.heap.get? b = some o ∧ X.H₀ b = none
  bsz : X.base.objs.size ≤ X.s₀.heap.objs.size
  noex : ∀ b o, X.base.get? b = some o → b ∉ X.ex
  exfs : ∀ b ∈ X.ex, b ∉ X.fs
  funs : X.s₀.heap.FunFrames X.base X.outer
  frf : ∀ b ∈ X.fs, X.H₀ b = none

structure Inv (X : Cx) (pins : List (Addr × Obj)) (σ : List (Option V)) (H : Hp) (s : Shared) : Prop where
  ok : X.Ok
  os : s.os = X.s₀.os
  bare : AllBare s.gens
  base : Un X.fs X.ex X.H₀ H X.s₀.heap s.heap
  loc : ∃ m, s.heap.Ns X.env.locals m ∧ ∀ (i : Nat) (x : Str) (v : V), X.N[i]? = some x → σ[i]? = some (some v) → Vis X.env.scope x → ∃ u, RelV v u ∧ Look X.env s.heap m x u
  cell : ∀ x c, X.env.cells.lookup x = some c → ∃ v, s.heap.IsCell c v
  free : H X.env.locals = none
  freeC : ∀ x c, X.env.cells.lookup x = some c → H c = none
  pin : ∀ p ∈ X.pn ++ pins, s.heap.get? p.1 = some p.2 ∧ H p.1 = none ∧ p.1 ≠ X.env.locals ∧ p.1 ∉ X.fs ∧ ∀ v, p.2.data ≠ .cell v
  hok : HOk X.prog X.w H s.heap
  len : σ.length = X.N.length

section
variable {X : Cx} {pins : List (Addr × Obj)} {σ : List (Option V)} {H H' : Hp} {s : Shared} {h' : Heap}

theorem Cx.Ok.nofr (ok : X.Ok) {b : Addr} {o : Obj} (e : X.base.get? b = some o) : b ∉ X.fs := fun hb => by
  have := (ok.funs.mem hb).1
  rw [e] at this; cases this
theorem Inv.bs (I : Inv X pins σ H s) : ∀ b o, X.base.get? b = some o → s.heap.get? b = some o ∧ H b = none := fun b o e =>
  ⟨I.base.keep b o (I.ok.bs b o e).1 (I.ok.bs b o e).2 (I.ok.nofr e) (I.ok.noex b o e), I.base.free b o (I.ok.bs b o e).1 (I.ok.bs b o e).2 (I.ok.noex b o e)⟩
theorem Inv.bk (I : Inv X pins σ H s) : ∀ b o, X.base.get? b = some o → s.heap.get? b = some o := fun b o e => (I.bs b o e).1
theorem Inv.mod (I : Inv X pins σ H s) : Mod X.K X.mg X.base := I.ok.mod
theorem Inv.kIn (I : Inv X pins σ H s) : X.K.In s.heap := I.ok.mod.kin.keeps I.bk
theorem Inv.nolimit (I : Inv X pins σ H s) : s.heap.NoLimit := I.ok.mod.nolimit.keeps I.bk
/-- the frame over the base: for OpenK's rules (K.In X.base is I.mod.kin) -/
theorem Inv.fr (I : Inv X pins σ H s) : ∃ m, Fr X.base X.env.locals s.heap m :=
  let ⟨m, hn, _⟩ := I.loc
  ⟨m, hn, I.bk, Nat.le_trans I.ok.bsz I.ok.above⟩
theorem Inv.lt (I : Inv X pins σ H s) : X.env.locals < s.heap.objs.size := let ⟨_, hn, _⟩ := I.loc; hn.lt
theorem Inv.sz (I : Inv X pins σ H s) : X.s₀.heap.objs.size ≤ s.heap.objs.size := Nat.le_trans I.ok.above (Nat.le_of_lt I.lt)
theorem Inv.nofs (I : Inv X pins σ H s) {a : Addr} (h : s.heap.objs.size ≤ a) : a ∉ X.fs := fun hb => by
  obtain ⟨_, o, ho, _⟩ := I.ok.funs.mem hb
  exact absurd (Nat.lt_of_lt_of_le (Heap.lt_size ho) (Nat.le_trans I.sz h)) (Nat.lt_irrefl _)
theorem Inv.cne (I : Inv X pins σ H s) : ∀ x c, X.env.cells.lookup x = some c → c ≠ X.env.locals := fun x c e z => by
  obtain ⟨v, o, ho, hd⟩ := I.cell x c e
  obtain ⟨m, ⟨o', es, ep, ho', hd', _⟩, _⟩ := I.loc
  rw [z, ho'] at ho; cases ho; rw [hd'] at hd; cases hd
theorem Inv.funs (I : Inv X pins σ H s) : s.heap.FunFrames X.base X.outer := by
  have all : ∀ (l : List Env), (∀ b ∈ frs l, b ∈ X.fs) → X.s₀.heap.FunFrames X.base l → s.heap.FunFrames X.base l := by
    intro l
    induction l with
    | nil => intro _ _; trivial
    | cons env r ih =>
      intro hs hl
      obtain ⟨hk, ⟨L, o, hf, hn, ho, hd⟩, hr⟩ := hl
      have hL : L ∈ X.fs := hs L (by unfold frs; rw [List.filterMap_cons, hf]; exact List.mem_cons_self)
      obtain ⟨sl, e⟩ := I.base.slot L o ho (I.ok.frf L hL) hL fun z => I.ok.exfs L z hL
      exact ⟨hk, ⟨L, _, hf, hn, e, hd⟩, ih (fun b hb => hs b (by unfold frs; rw [List.filterMap_cons, hf]; exact List.mem_cons_of_mem _ hb)) hr⟩
  exact all X.outer (fun _ hb => hb) I.ok.funs

/-- the frames that run, for a call -/
theorem Inv.stack (I : Inv X pins σ H s) : s.heap.FunFrames X.base X.stack := by
  rcases I.ok.stk with e | ⟨e, hf⟩
  · rw [e]; exact I.funs
  · rw [e]
    obtain ⟨m, hn, _⟩ := I.loc
    refine .cons (by rw [I.ok.kind]; decide) hf hn ?_ I.funs
    exact Heap.get?_none_of_le (Nat.le_trans I.ok.bsz I.ok.above)
theorem Inv.stkSub (I : Inv X pins σ H s) : ∀ b ∈ frs X.stack, b ∈ X.env.locals :: X.fs := fun b hb => by
  rcases I.ok.stk with e | ⟨e, hf⟩
  · rw [e] at hb; exact List.mem_cons_of_mem _ hb
  · rw [e] at hb
    unfold frs at hb
    rw [List.filterMap_cons, hf] at hb
    exact hb
theorem Inv.stkFree (I : Inv X pins σ H s) : ∀ b ∈ frs X.stack, H b = none := fun b hb => by
  rcases List.mem_cons.mp (I.stkSub b hb) with e | hb
  · rw [e]; exact I.free
  · obtain ⟨_, o, ho, _⟩ := I.ok.funs.mem hb
    exact I.base.free b o ho (I.ok.frf b hb) fun z => I.ok.exfs b z hb

/-- THE STEP: the untracked objects but the frame and the records at ch are kept (the callers' frames up to slots), the frame's map is kept, the new abstract heap is held -/
theorem Inv.step {g' : Array GenState} {t' : Nat} {d' : Drawn} {ch : List Addr} (I : Inv X pins σ H s)
    (hch : ∀ b ∈ ch, (b ∈ X.ex ∨ X.s₀.heap.objs.size ≤ b) ∧ b ≠ X.env.locals ∧ (∀ x c, X.env.cells.lookup x = some c → c ≠ b) ∧ ∀ p ∈ X.pn ++ pins, p.1 ≠ b)
    (keep : ∀ b o, b ≠ X.env.locals → b ∉ X.fs → b ∉ ch → s.heap.get? b = some o → H b = none → h'.get? b = some o)
    (slot : ∀ b o, b ≠ X.env.locals → b ∈ X.fs → b ∉ ch → s.heap.get? b = some o → H b = none → ∃ sl, h'.get? b = some { o with slots := sl }) (free : ∀ b o, b ∉ ch → s.heap.get? b = some o → H b = none → H' b = none)
    (there : ∀ b o, b ∉ ch → s.heap.get? b = some o → ∃ o', h'.get? b = some o')
    (tups : ∀ b xs, H b = some (.tup xs) → H' b = some (.tup xs)) (frzs : ∀ b o u, H b = some (.frz o u) → H' b = some (.frz o u)) (tbls : ∀ b ps, H b = some (.tbl ps) → ∃ more, H' b = some (.tbl (ps ++ more)))
    (ns : ∀ m, s.heap.Ns X.env.locals m → h'.Ns X.env.locals m) (hok : HOk X.prog X.w H' h') (hg : AllBare g') :
    Inv X pins σ H' { s with heap := h', gens := g', drawn := d', toks := t' } := by
  have neL : ∀ b o, X.s₀.heap.get? b = some o → b ≠ X.env.locals := fun b o e => Nat.ne_of_lt (Nat.lt_of_lt_of_le (Heap.lt_size e) I.ok.above)
  have neC : ∀ b o, X.s₀.heap.get? b = some o → b ∉ X.ex → b ∉ ch := fun b o e hx hb => by
    rcases (hch b hb).1 with z | z
    · exact hx z
    · exact absurd (Nat.lt_of_lt_of_le (Heap.lt_size e) z) (Nat.lt_irrefl _)
  have cellK : ∀ x c, X.env.cells.lookup x = some c → ∀ v, s.heap.IsCell c v → h'.IsCell c v := fun x c e v ⟨o, ho, hd⟩ => by
    have nch : c ∉ ch := fun z => (hch c z).2.2.1 x c e rfl
    by_cases hc : c ∈ X.fs
    · obtain ⟨sl, q⟩ := slot c o (I.cne x c e) hc nch ho (I.freeC x c e)
      exact ⟨_, q, hd⟩
    · exact ⟨o, keep c o (I.cne x c e) hc nch ho (I.freeC x c e), hd⟩
  refine ⟨I.ok, I.os, hg, ⟨fun b o e n hb hx => ?_, fun b o e n hb hx => ?_, fun b o e n hx => ?_, fun b o e hx => ?_, fun b xs e => tups b xs (I.base.tups b xs e), fun b o xs e => frzs b o xs (I.base.frzs b o xs e), fun b ps e => ?_⟩, ?_, fun x c e => ?_, ?_, fun x c e => ?_, fun p hp => ?_, hok, I.len⟩
  · exact keep b o (neL b o e) hb (neC b o e hx) (I.base.keep b o e n hb hx) (I.base.free b o e n hx)
  · obtain ⟨sl, e1⟩ := I.base.slot b o e n hb hx
    obtain ⟨sl', e2⟩ := slot b _ (neL b o e) hb (neC b o e hx) e1 (I.base.free b o e n hx)
    exact ⟨sl', e2⟩
  · obtain ⟨o', e1⟩ := I.base.there b o e hx
    exact free b o' (neC b o e hx) e1 (I.base.free b o e n hx)
  · obtain ⟨o', e1⟩ := I.base.there b o e hx
    exact there b o' (neC b o e hx) e1
  · obtain ⟨m1, e1⟩ := I.base.tbls b ps e
    obtain ⟨m2, e2⟩ := tbls b _ e1
    exact ⟨m1 ++ m2, by rw [e2, Array.append_assoc]⟩
  · obtain ⟨m, hn, hl⟩ := I.loc
    refine ⟨m, ns m hn, fun i x v e1 e2 e3 => ?_⟩
    obtain ⟨u, r, l⟩ := hl i x v e1 e2 e3
    refine ⟨u, r, ?_⟩
    rcases l with l | ⟨k, c, e, z⟩
    · exact .inl l
    · exact .inr ⟨k, c, e, cellK x c e _ z⟩
  · obtain ⟨v, z⟩ := I.cell x c e
    exact ⟨v, cellK x c e v z⟩
  · obtain ⟨m, ⟨o, _, _, ho, _⟩, _⟩ := I.loc
    exact free _ o (fun z => (hch _ z).2.1 rfl) ho I.free
  · obtain ⟨v, o, ho, hd⟩ := I.cell x c e
    exact free c o (fun z => (hch c z).2.2.1 x c e rfl) ho (I.freeC x c e)
  · obtain ⟨e, n, ne, nf, d⟩ := I.pin p hp
    have nch : p.1 ∉ ch := fun z => (hch p.1 z).2.2.2 p hp rfl
    exact ⟨keep p.1 p.2 ne nf nch e n, free p.1 p.2 nch e n, ne, nf, d⟩
/-- .. where the frame's own object is kept too -/
theorem Inv.un {t' : Nat} (I : Inv X pins σ H s) (u : Un X.fs [] H H' s.heap h') (hok : HOk X.prog X.w H' h') : Inv X pins σ H' { s with heap := h', toks := t' } := by
  obtain ⟨m, ⟨o, es, ep, ho, r⟩, _⟩ := id I.loc
  obtain ⟨sl, hL⟩ := u.any ho I.free (by simp)
  exact I.step (g' := s.gens) (d' := s.drawn) (ch := []) (fun _ z => nomatch z) (fun b o _ hb _ e n => u.keep b o e n hb (by simp)) (fun b o _ hb _ e n => u.slot b o e n hb (by simp)) (fun b o _ e n => u.free b o e n (by simp)) (fun b o _ e => u.there b o e (by simp)) u.tups u.frzs u.tbls (fun m' hm => by
    obtain ⟨o', es', ep', ho', r'⟩ := hm
    rw [ho] at ho'; cases ho'
    exact ⟨_, es', ep', hL, r'⟩) hok I.bare
/-- behind a call (or a comprehension's block): the slots of this frame may have changed too, the records at ch may have turned -/
theorem Inv.call {g' : Array GenState} {t' : Nat} {d' : Drawn} {ch : List Addr} (I : Inv X pins σ H s) (u : Un (frs X.stack) ch H H' s.heap h') (hok : HOk X.prog X.w H' h') (hg : AllBare g')
    (hch : ∀ b ∈ ch, (b ∈ X.ex ∨ X.s₀.heap.objs.size ≤ b) ∧ b ≠ X.env.locals ∧ (∀ x c, X.env.cells.lookup x = some c → c ≠ b) ∧ ∀ p ∈ X.pn ++ pins, p.1 ≠ b) :
    Inv X pins σ H' { s with heap := h', gens := g', drawn := d', toks := t' } := by
  obtain ⟨m, ⟨o, es, ep, ho, r⟩, _⟩ := id I.loc
  obtain ⟨sl, hL⟩ := u.any ho I.free fun z => (hch _ z).2.1 rfl
  exact I.step (ch := ch) hch (fun b o hL hb hc e n => u.keep b o e n (fun z => (List.mem_cons.mp (I.stkSub b z)).elim hL hb) hc) (fun b o _ _ hc e n => u.any e n hc) (fun b o hc e n => u.free b o e n hc) (fun b o hc e => u.there b o e hc) u.tups u.frzs u.tbls (fun m' hm => by
    obtain ⟨o', es', ep', ho', r'⟩ := hm
    rw [ho] at ho'; cases ho'
    exact ⟨_, es', ep', hL, r'⟩) hok hg
/-- an untracked record of ours (an iterator) has turned -/
theorem Inv.turned {t' : Nat} {it : Addr} (I : Inv X pins σ H s) (k : ∀ b o, b ≠ it → s.heap.get? b = some o → h'.get? b = some o) (hn : H it = none) (hL : it ≠ X.env.locals)
    (h1 : it ∈ X.ex ∨ X.s₀.heap.objs.size ≤ it) (h2 : ∀ x c, X.env.cells.lookup x = some c → c ≠ it) (h3 : ∀ p ∈ X.pn ++ pins, p.1 ≠ it) : Inv X pins σ H { s with heap := h', toks := t' } := by
  have nit : ∀ b u, H b = some u → b ≠ it := fun b u e z => by rw [z, hn] at e; cases e
  refine I.step (g' := s.gens) (d' := s.drawn) (ch := [it]) (fun b hb => ?_) (fun b o _ _ hc e _ => k b o (fun z => hc (by simp [z])) e) (fun b o _ _ hc e _ => ⟨o.slots, k b o (fun z => hc (by simp [z])) e⟩) (fun _ _ _ _ n => n)
    (fun b o hc e => ⟨o, k b o (fun z => hc (by simp [z])) e⟩) (fun _ _ e => e) (fun _ _ _ e => e) (fun b ps e => ⟨#[], by rw [e]; simp⟩) (fun m hm => ?_) (fun b u e => ?_) I.bare
  · have e : b = it := by simpa using hb
    subst e
    exact ⟨h1, hL, h2, h3⟩
  · obtain ⟨o, es, ep, ho, r⟩ := hm
    exact ⟨o, es, ep, k _ o (Ne.symm hL) ho, r⟩
  · refine (I.hok b u e).stay (fun c v hc q => k c v ?_ q) (fun _ q => q) fun _ _ q => q
    rcases hc with z | z
    · rw [z]; exact nit b u e
    · exact nit c _ z
theorem Inv.tok (I : Inv X pins σ H s) (t : Nat) : Inv X pins σ H { s with toks := t } := I.un (h' := s.heap) (t' := t) Un.refl I.hok
/-- all objects kept -/
theorem Inv.kept {t' : Nat} (I : Inv X pins σ H s) (k : ∀ b u, s.heap.get? b = some u → h'.get? b = some u) : Inv X pins σ H { s with heap := h', toks := t' } := I.un (Un.kept k) (I.hok.kept k)
/-- a new object laid and tracked -/
theorem Inv.laid {a : Addr} {o : HO} {t' : Nat} (I : Inv X pins σ H s) (k : ∀ b u, s.heap.get? b = some u → h'.get? b = some u) (hp : s.heap.objs.size ≤ a) (new : ObjOk X.prog X.w (upd H a o) h' a o) :
    Inv X pins σ (upd H a o) { s with heap := h', toks := t' } := I.un (Un.laid k hp (I.hok.fresh hp)) (I.hok.laid k hp new)
/-- an object written -/
theorem Inv.write {x e : Addr} {o : HO} {t' : Nat} (I : Inv X pins σ H s) (mu : Mut (H x)) (he : e = x ∨ H e = some (.own x)) (k : ∀ b u, b ≠ e → s.heap.get? b = some u → h'.get? b = some u) (heo : ∃ u, h'.get? e = some u)
    (new : ObjOk X.prog X.w (upd H x o) h' x o) : Inv X pins σ (upd H x o) { s with heap := h', toks := t' } := I.un (Un.write mu he k heo) (I.hok.write mu he k heo new)
/-- forgetting slots, pins -/
theorem Inv.weak {σ' : List (Option V)} (I : Inv X pins σ H s) (hl : σ'.length = σ.length) (w : ∀ (i : Nat) v, σ'[i]? = some (some v) → σ[i]? = some (some v)) : Inv X pins σ' H s :=
  ⟨I.ok, I.os, I.bare, I.base, let ⟨m, hn, hl'⟩ := I.loc; ⟨m, hn, fun i x v e1 e2 e3 => hl' i x v e1 (w i v e2) e3⟩, I.cell, I.free, I.freeC, I.pin, I.hok, hl.trans I.len⟩
theorem Inv.pins_of {pins' : List (Addr × Obj)} (I : Inv X pins σ H s) (h : ∀ p ∈ pins', s.heap.get? p.1 = some p.2 ∧ H p.1 = none ∧ p.1 ≠ X.env.locals ∧ p.1 ∉ X.fs ∧ ∀ v, p.2.data ≠ .cell v) : Inv X pins' σ H s :=
  ⟨I.ok, I.os, I.bare, I.base, I.loc, I.cell, I.free, I.freeC, fun p hp => (List.mem_append.mp hp).elim (fun z => I.pin p (List.mem_append_left _ z)) (h p), I.hok, I.len⟩

theorem nodup_ix {N : List Str} (hN : N.Nodup) {i j : Nat} {x : Str} (a : N[i]? = some x) (b : N[j]? = some x) : i = j := by
  obtain ⟨h1, e1⟩ := List.getElem?_eq_some_iff.mp a
  obtain ⟨h2, e2⟩ := List.getElem?_eq_some_iff.mp b
  exact (List.getElem_inj hN).mp (e1.trans e2.symm)

/-- a name is stored; what changed -/
theorem store_ok2 {M : Model} {A : Around} {E : Value → Shared → Prop} {i : Nat} {x : Str} {v : V} {u : Value} {Q : Unit → Shared → Prop} (I : Inv X pins σ H s) (hN : X.N.Nodup) (hi : X.N[i]? = some x) (hx : Loc X.env.scope x) (r : RelV v u)
    (h : ∀ s', Inv X pins (σ.set i (some v)) H s' → (∃ a, Heap.SameBut a s.heap s'.heap ∧ (a = X.env.locals ∨ X.env.cells.lookup x = some a)) → Q () s') (hf : X.fn x = true ∨ X.env.scope.names.lookup x = some .local := by first | exact .inl rfl | exact .inr rfl | assumption) : wpAny M A (storeName X.env x u) Q E s := by
  obtain ⟨m, hn, hl⟩ := id I.loc
  have hcls : (X.env.scope.kind == .class || (X.env.scope.kind == .module && X.env.locals != X.env.globals)) = false := by rw [I.ok.kind]; rfl
  have hiσ : i < σ.length := by rw [I.len]; exact (List.getElem?_eq_some_iff.mp hi).1
  have cne := I.cne
  have tracked : ∀ {a : Addr} {h' : Heap}, (∃ o, s.heap.get? a = some o ∧ H a = none) → Heap.SameBut a s.heap h' → HOk X.prog X.w H h' := fun {a h'} ha hs b ob e => by
    obtain ⟨_, _, hfree⟩ := ha
    refine (I.hok b ob e).stay (fun c w' hc q => (hs.2 c ?_).trans q) (fun _ q => q) fun _ _ q => q
    rintro rfl
    rcases hc with rfl | hc
    · rw [hfree] at e; cases e
    · rw [hfree] at hc; cases hc
  rcases hx with hk | hk
  · refine wpAny_storeName_local hk hn (fun h' hn' hs => ?_) hcls
    obtain ⟨oL, _, _, hoL, _⟩ := id hn
    refine h _ ⟨I.ok, I.os, I.bare, ⟨fun b o e n hb hx => ?_, fun b o e n hb hx => ?_, I.base.free, fun b o e hx => ?_, I.base.tups, I.base.frzs, I.base.tbls⟩, ⟨_, hn', fun j y v' e1 e2 e3 => ?_⟩, fun y c e => ?_, I.free, I.freeC, fun p hp => ?_, tracked ⟨oL, hoL, I.free⟩ hs, by simpa using I.len⟩ ⟨_, hs, .inl rfl⟩
    · exact (hs.2 b (Nat.ne_of_lt (Nat.lt_of_lt_of_le (Heap.lt_size e) I.ok.above))).trans (I.base.keep b o e n hb hx)
    · obtain ⟨sl, e1⟩ := I.base.slot b o e n hb hx
      exact ⟨sl, (hs.2 b (Nat.ne_of_lt (Nat.lt_of_lt_of_le (Heap.lt_size e) I.ok.above))).trans e1⟩
    · obtain ⟨o', e1⟩ := I.base.there b o e hx
      exact ⟨o', (hs.2 b (Nat.ne_of_lt (Nat.lt_of_lt_of_le (Heap.lt_size e) I.ok.above))).trans e1⟩
    · by_cases hj : j = i
      · subst hj
        rw [hi] at e1; cases e1
        rw [List.getElem?_set_self hiσ] at e2
        cases e2
        exact ⟨u, r, .inl ⟨hk, by simp⟩⟩
      · rw [List.getElem?_set_ne (Ne.symm hj)] at e2
        obtain ⟨u', r', q⟩ := hl j y v' e1 e2 e3
        refine ⟨u', r', ?_⟩
        rcases q with ⟨k, e⟩ | ⟨k, c, e, z⟩
        · refine .inl ⟨k, ?_⟩
          have : y ≠ x := fun e => hj (nodup_ix hN e1 (e ▸ hi))
          simp [this, e]
        · exact .inr ⟨k, c, e, z.sameBut hs (cne y c e)⟩
    · obtain ⟨w', z⟩ := I.cell y c e
      exact ⟨w', z.sameBut hs (cne y c e)⟩
    · obtain ⟨e, n, ne, nf, d⟩ := I.pin p hp
      exact ⟨(hs.2 p.1 ne).trans e, n, ne, nf, d⟩
  · have hfn : X.fn x = true := by
      rcases hf with z | z
      · exact z
      · rw [z] at hk; cases hk
    obtain ⟨c, hc⟩ := I.ok.has x (.inl hk)
    obtain ⟨w', z⟩ := I.cell x c hc
    refine wpAny_storeName_cell I.ok.kind hk hc z (fun h' hc' hs => ?_)
    obtain ⟨oc, hoc, hocd⟩ := id z
    refine h { s with heap := h' } ⟨I.ok, I.os, I.bare, ⟨fun b o e n hb hx => ?_, fun b o e n hb hx => ?_, I.base.free, fun b o e hx => ?_, I.base.tups, I.base.frzs, I.base.tbls⟩, ⟨m, hn.sameBut hs (Ne.symm (cne x c hc)), fun j y v' e1 e2 e3 => ?_⟩, fun y c' e => ?_, I.free, I.freeC, fun p hp => ?_, tracked ⟨oc, hoc, I.freeC x c hc⟩ hs, by simpa using I.len⟩ ⟨c, hs, .inr hc⟩
    · exact (hs.2 b (Nat.ne_of_lt (Nat.lt_of_lt_of_le (Heap.lt_size e) (I.ok.cab x c hfn hc)))).trans (I.base.keep b o e n hb hx)
    · obtain ⟨sl, e1⟩ := I.base.slot b o e n hb hx
      exact ⟨sl, (hs.2 b (Nat.ne_of_lt (Nat.lt_of_lt_of_le (Heap.lt_size e) (I.ok.cab x c hfn hc)))).trans e1⟩
    · obtain ⟨o', e1⟩ := I.base.there b o e hx
      exact ⟨o', (hs.2 b (Nat.ne_of_lt (Nat.lt_of_lt_of_le (Heap.lt_size e) (I.ok.cab x c hfn hc)))).trans e1⟩
    · by_cases hj : j = i
      · subst hj
        rw [hi] at e1; cases e1
        rw [List.getElem?_set_self hiσ] at e2
        cases e2
        exact ⟨u, r, .inr ⟨.inl hk, c, hc, hc'⟩⟩
      · rw [List.getElem?_set_ne (Ne.symm hj)] at e2
        obtain ⟨u', r', q⟩ := hl j y v' e1 e2 e3
        refine ⟨u', r', ?_⟩
        rcases q with q | ⟨k, c', e, z'⟩
        · exact .inl q
        · refine .inr ⟨k, c', e, z'.sameBut hs ?_⟩
          rintro rfl
          exact hj (nodup_ix hN e1 (I.ok.inj _ _ _ e hc ▸ hi))
    · by_cases hcc : c' = c
      · subst hcc; exact ⟨_, hc'⟩
      · obtain ⟨w2, z2⟩ := I.cell y c' e
        exact ⟨w2, z2.sameBut hs hcc⟩
    · obtain ⟨e, n, ne, nf, d⟩ := I.pin p hp
      refine ⟨(hs.2 p.1 ?_).trans e, n, ne, nf, d⟩
      intro q
      rw [q, hoc] at e
      have q' : oc = p.2 := Option.some.inj e
      exact d w' (by rw [← q']; exact hocd)
theorem store_ok {M : Model} {A : Around} {E : Value → Shared → Prop} {i : Nat} {x : Str} {v : V} {u : Value} {Q : Unit → Shared → Prop} (I : Inv X pins σ H s) (hN : X.N.Nodup) (hi : X.N[i]? = some x) (hx : Loc X.env.scope x) (r : RelV v u)
    (h : ∀ s', Inv X pins (σ.set i (some v)) H s' → Q () s') (hf : X.fn x = true ∨ X.env.scope.names.lookup x = some .local := by first | exact .inl rfl | exact .inr rfl | assumption) : wpAny M A (storeName X.env x u) Q E s :=
  store_ok2 I hN hi hx r (fun s' I' _ => h s' I') hf
/-- behind a call or a block, the state as it is -/
theorem Inv.call' {s' : Shared} {ch : List Addr} (I : Inv X pins σ H s) (ho : s'.os = s.os) (u : Un (frs X.stack) ch H H' s.heap s'.heap) (hok : HOk X.prog X.w H' s'.heap) (hg : AllBare s'.gens)
    (hch : ∀ b ∈ ch, (b ∈ X.ex ∨ X.s₀.heap.objs.size ≤ b) ∧ b ≠ X.env.locals ∧ (∀ x c, X.env.cells.lookup x = some c → c ≠ b) ∧ ∀ p ∈ X.pn ++ pins, p.1 ≠ b) : Inv X pins σ H' s' := by
  obtain ⟨h', g', d', t', o'⟩ := s'
  have e : o' = s.os := ho
  subst e
  exact I.call (g' := g') (t' := t') (d' := d') u hok hg hch
end

/-! ### the judgements -/
/-- an exception: its class, its own dict's address (where it has one), the abstract heap behind it -/
abbrev XK := Value → Option Addr → Hp → Prop
abbrev St := List (Option V)
abbrev VK := V → Hp → Prop
/-- an expression's reading; a test's; an argument list's -/
abbrev TE := St → Hp → VK → Prop
abbrev TT := St → Hp → (Bool → Hp → Prop) → Prop
abbrev TA := St → Hp → (List V → Hp → Prop) → Prop
/-- what is wanted behind a statement -/
structure Ends where
  nx : St → Hp → Prop
  rt : VK
  bk : St → Hp → Prop := fun _ _ => False
  ct : St → Hp → Prop := fun _ _ => False
abbrev TS := Ends → St → Hp → Prop

def EP (X : Cx) (pins : List (Addr × Obj)) (σ : St) (Q : VK) (u : Value) (s' : Shared) : Prop := ∃ v H', Inv X pins σ H' s' ∧ RelV v u ∧ Q v H'
def TP (X : Cx) (pins : List (Addr × Obj)) (σ : St) (Q : Bool → Hp → Prop) (b : Bool) (s' : Shared) : Prop := ∃ H', Inv X pins σ H' s' ∧ Q b H'
def AP (X : Cx) (pins : List (Addr × Obj)) (σ : St) (Q : List V → Hp → Prop) (us : List Value) (s' : Shared) : Prop := ∃ vs H', Inv X pins σ H' s' ∧ Vals vs us ∧ Q vs H'
def SP (X : Cx) (pins : List (Addr × Obj)) (D : Ends) (f : Flow) (s' : Shared) : Prop :=
  match f with
  | .next => ∃ σ' H', Inv X pins σ' H' s' ∧ D.nx σ' H'
  | .brk => ∃ σ' H', Inv X pins σ' H' s' ∧ D.bk σ' H'
  | .cont => ∃ σ' H', Inv X pins σ' H' s' ∧ D.ct σ' H'
  | .ret u => ∃ v σ' H', Inv X pins σ' H' s' ∧ RelV v u ∧ D.rt v H'

def PE (X : Cx) (e : Expr) (t : TE) : Prop :=
  ∀ (pins : List (Addr × Obj)) (s : Shared) (σ : St) (H : Hp) (Q : VK), Inv X pins σ H s → t σ H Q → wpAny (model X.prog X.w) X.A (eval e X.env) (EP X pins σ Q) X.xe s
def PT (X : Cx) (e : Expr) (t : TT) : Prop :=
  ∀ (pins : List (Addr × Obj)) (s : Shared) (σ : St) (H : Hp) (Q : Bool → Hp → Prop), Inv X pins σ H s → t σ H Q → wpAny (model X.prog X.w) X.A (isTrue e X.env (eval e X.env)) (TP X pins σ Q) X.xe s
/-- a test whatever its 'whole' is (and, or) -/
def PW (X : Cx) (e : Expr) (t : TT) : Prop :=
  ∀ (whole : Sem Value) (pins : List (Addr × Obj)) (s : Shared) (σ : St) (H : Hp) (Q : Bool → Hp → Prop), Inv X pins σ H s → t σ H Q → wpAny (model X.prog X.w) X.A (isTrue e X.env whole) (TP X pins σ Q) X.xe s
theorem PW.pt {X : Cx} {e : Expr} {t : TT} (h : PW X e t) : PT X e t := h _
/-- an argument list (no star), from the left -/
def PA (X : Cx) (es : List Expr) (t : TA) : Prop :=
  ∀ (pos : Pos) (pins : List (Addr × Obj)) (s : Shared) (σ : St) (H : Hp) (Q : List V → Hp → Prop), Inv X pins σ H s → t σ H Q → wpAny (model X.prog X.w) X.A (spliced (backTo pos (starEach es X.env))) (AP X pins σ Q) X.xe s
def PS (X : Cx) (st : Stmt) (t : TS) : Prop :=
  ∀ (pins : List (Addr × Obj)) (s : Shared) (σ : St) (H : Hp) (D : Ends), Inv X pins σ H s → t D σ H → wpAny (model X.prog X.w) X.A (exec st X.env) (SP X pins D) X.xe s
def PSs (X : Cx) (st : List Stmt) (t : TS) : Prop :=
  ∀ (pins : List (Addr × Obj)) (s : Shared) (σ : St) (H : Hp) (D : Ends), Inv X pins σ H s → t D σ H → wpAny (model X.prog X.w) X.A (execs st X.env) (SP X pins D) X.xe s
/-- weaken the end -/
theorem thn {α : Type} {t : Sem α} {Q Q' : α → Shared → Prop} {M : Model} {A : Around} {E : Value → Shared → Prop} {s : Shared} (h : wpAny M A t Q E s) (hQ : ∀ a s, Q a s → Q' a s) : wpAny M A t Q' E s := wpAny_mono h hQ fun _ _ x => x
end L2

namespace L2
open PySem PySem.Spec PyProof.Rows
section
variable {X : Cx}

/-! ### names and constants -/
def tVar (i : Nat) : TE := fun σ H Q => ∃ v, σ[i]? = some (some v) ∧ Q v H
def tC (v : V) : TE := fun _ H Q => Q v H
theorem pe_var {i : Nat} {x : Str} {pos : Pos} (hN : X.N[i]? = some x) (hv : Vis X.env.scope x) (hd : (x == ("__debug__" : Str)) = false := by decide) (hcd : (x == ("__classdict__" : Str)) = false := by decide) : PE X (.Name x pos) (tVar i) := by
  intro pins s σ H Q I h
  obtain ⟨v, e, h⟩ := h
  obtain ⟨m, hn, hl⟩ := I.loc
  obtain ⟨u, r, l⟩ := hl i x v hN e hv
  have fin : EP X pins σ Q u s := ⟨v, H, I, r, h⟩
  rcases l with ⟨hk, hm⟩ | ⟨hk, c, hc, hcell⟩
  · exact wpAny_Name (wpAny_loadName_local I.ok.kind hk hn hm fin) hd
  · rcases hk with hk | hk
    · exact wpAny_Name (wpAny_loadName_cell I.ok.kind hk hc hcell fin) hd
    · exact wpAny_Name (wpAny_loadName_free I.ok.kind hk hc hcell fin hcd) hd
theorem pe_int {i j pos} : PE X (.Constant (.int i) j pos) (tC (.int i)) := fun _ _ _ H _ I h => wpAny_Constant_int ⟨.int i, H, I.tok _, ⟨_, rfl⟩, h⟩
theorem pe_bl {b j pos} : PE X (.Constant (.bool b) j pos) (tC (.bl b)) := fun _ _ _ H _ I h => Constant_bool ⟨.bl b, H, I, rfl, h⟩
theorem pe_non {j pos} : PE X (.Constant .none j pos) (tC .non) := fun _ _ _ H _ I h => Constant_none ⟨.non, H, I, rfl, h⟩
theorem pe_str {x j pos} : PE X (.Constant (.str x) j pos) (tC (.str x)) := fun _ _ _ H _ I h => Calls.Constant_str ⟨.str x, H, I.tok _, ⟨_, rfl⟩, h⟩

/-- a global name of the def -/
def Gl (X : Cx) (x : Str) : Prop := X.env.kindOf x = some .globalImplicit
theorem ld_glob {E : Value → Shared → Prop} {pins : List (Addr × Obj)} {s : Shared} {σ : St} {H : Hp} {x : Str} {u : Value} {pos : Pos} {Q : Value → Shared → Prop} (I : Inv X pins σ H s) (hg : Gl X x) (hm : X.mg x = some u) (h : Q u s)
    (hd : (x == ("__debug__" : Str)) = false := by decide) : wpAny (model X.prog X.w) X.A (eval (.Name x pos) X.env) Q E s :=
  Calls.Name_function_global I.ok.kind hg (Calls.loadGlobal_global (by rw [I.ok.glob]; exact I.mod.glob.keeps I.bk) hm h) hd
theorem ld_blt {E : Value → Shared → Prop} {pins : List (Addr × Obj)} {s : Shared} {σ : St} {H : Hp} {x : Str} {u : Value} {pos : Pos} {Q : Value → Shared → Prop} (I : Inv X pins σ H s) (hg : Gl X x) (hm : X.mg x = none) (hv : bootBuiltins x = some u) (h : Q u s)
    (hn : x ≠ "__name__" := by decide) (hd : (x == ("__debug__" : Str)) = false := by decide) : wpAny (model X.prog X.w) X.A (eval (.Name x pos) X.env) Q E s := by
  obtain ⟨mb, h1, h2⟩ := I.mod.blt
  exact Calls.Name_function_global I.ok.kind hg (Calls.loadGlobal_builtin (by rw [I.ok.glob]; exact I.mod.glob.keeps I.bk) hm (by rw [I.ok.blt]; exact h1.keeps I.bk) ((h2 x hn).trans hv) h) hd
/-- a module's constant, a class, a function, as a value -/
theorem pe_glob {x : Str} {v : V} {u : Value} {pos : Pos} (hg : Gl X x) (hm : X.mg x = some u) (r : RelV v u) (hd : (x == ("__debug__" : Str)) = false := by decide) : PE X (.Name x pos) (tC v) :=
  fun _ _ _ H _ I h => ld_glob I hg hm ⟨v, H, I, r, h⟩ hd
theorem pe_bltn {x : Str} {v : V} {u : Value} {pos : Pos} (hg : Gl X x) (hm : X.mg x = none) (hv : bootBuiltins x = some u) (r : RelV v u) (hn : x ≠ "__name__" := by decide) (hd : (x == ("__debug__" : Str)) = false := by decide) : PE X (.Name x pos) (tC v) :=
  fun _ _ _ H _ I h => ld_blt I hg hm hv ⟨v, H, I, r, h⟩ hn hd

/-! ### arithmetic -/
variable {a b : Expr} {ta tb : TE} {pos : Pos}
/-! ### comparisons -/
def PC (X : Cx) (op : CmpOp) (a b : Expr) (t : TE) : Prop :=
  ∀ (pins : List (Addr × Obj)) (s : Shared) (σ : St) (H : Hp) (Q : VK), Inv X pins σ H s → t σ H Q →
    wpAny (model X.prog X.w) X.A (eval a X.env) (fun v s₁ => wpAny (model X.prog X.w) X.A (eval b X.env) (fun u s₂ => wpAny (model X.prog X.w) X.A (compareOp op v u) (EP X pins σ Q) X.xe s₂) X.xe s₁) X.xe s
theorem nobehind (b : Expr) {op : CmpOp} (h : op ≠ .In) (h2 : op ≠ .NotIn) : behindInMarks op b = false := by
  have e1 : (op == CmpOp.In) = false := by cases op <;> first | rfl | exact absurd rfl h
  have e2 : (op == CmpOp.NotIn) = false := by cases op <;> first | rfl | exact absurd rfl h2
  cases b <;> simp [behindInMarks, e1, e2]
/-- a comparison as a value, as a test -/
def tB (t : TE) : TT := fun σ H Q => t σ H fun x H1 => ∃ c, x = .bl c ∧ Q c H1
theorem pt_cmp {op : CmpOp} {t : TE} (h : PC X op a b t) (h1 : behindInMarks op b = false := by first | exact nobehind _ (by decide) (by decide) | rfl) : PT X (.Compare a [op] [b] pos) (tB t) := by
  intro pins s σ H Q I hw
  refine wpAny_isTrue_Compare1 (thn (h pins s σ H _ I hw) fun v s1 h1 => thn h1 fun u s2 h2 => thn h2 fun c s3 ⟨x, H1, I1, r1, q1⟩ => ?_) h1
  obtain ⟨d, rfl, q⟩ := q1
  cases r1
  exact wpAny_truthy_bool ⟨H1, I1, q⟩
/-- an expression whose value is a bool, as a test -/
theorem pt_val {e : Expr} {t : TE} (h : PE X e t) (he : ∀ whole, isTrue e X.env whole = (do let v ← whole; standAt e.pos; holding [v] (truthy v)) := by intro _; rfl) : PT X e (tB t) := by
  intro pins s σ H Q I hw
  refine isTrue_plain (thn (h pins s σ H _ I hw) fun v s1 ⟨x, H1, I1, r1, q1⟩ => ?_) (he _)
  obtain ⟨d, rfl, q⟩ := q1
  cases r1
  exact wpAny_truthy_bool ⟨H1, I1, q⟩

/-! ### and, or, not -/
variable {tA tB' : TT} {rest : List Expr}
def tOr (t u : TT) : TT := fun σ H Q => t σ H fun c H1 => if c = true then Q true H1 else u σ H1 Q
def tNot (t : TT) : TT := fun σ H Q => t σ H fun c H1 => Q (!c) H1
theorem pw_or1 (ha : PT X a tA) : PW X (.BoolOp .Or [a] pos) tA := by
  intro wh pins s σ H Q I h
  refine isTrue_or (thn (ha pins s σ H Q I h) fun c s1 e => ?_)
  cases c with
  | false => exact isTrue_or_nil e
  | true => exact e
theorem pw_or (ha : PT X a tA) (hb : PW X (.BoolOp .Or (b :: rest) pos) tB') : PW X (.BoolOp .Or (a :: b :: rest) pos) (tOr tA tB') := by
  intro wh pins s σ H Q I h
  refine isTrue_or (thn (ha pins s σ H _ I h) fun c s1 ⟨H1, I1, q1⟩ => ?_)
  cases c with
  | true => exact ⟨H1, I1, q1⟩
  | false => exact hb wh pins s1 σ H1 Q I1 q1
theorem pt_not (ha : PT X a tA) : PT X (.UnaryOp .Not a pos) (tNot tA) := by
  intro pins s σ H Q I h
  exact isTrue_not (ha pins s σ H (fun c H1 => Q (!c) H1) I h)
/-- .. as values (bools) -/
def tAndV (ta tb : TE) : TE := fun σ H Q => ta σ H fun x H1 => ∃ c, x = .bl c ∧ if c = true then tb σ H1 Q else Q (.bl false) H1
def tNotV (ta : TE) : TE := fun σ H Q => ta σ H fun x H1 => ∃ c, x = .bl c ∧ Q (.bl (!c)) H1
theorem pe_one {op} {t : TE} (h : PE X a t) : PE X (.BoolOp op [a] pos) t := fun pins s σ H Q I hw => BoolOp_one (h pins s σ H Q I hw)
theorem pe_and (ha : PE X a ta) (hb : PE X (.BoolOp .And (b :: rest) pos) tb) : PE X (.BoolOp .And (a :: b :: rest) pos) (tAndV ta tb) := by
  intro pins s σ H Q I h
  refine BoolOp_and (thn (ha pins s σ H _ I h) fun v s1 ⟨x, H1, I1, r1, q1⟩ => ?_)
  obtain ⟨c, rfl, q1⟩ := q1
  cases r1
  refine wpAny_truthy_bool ?_
  cases c with
  | true => exact hb pins s1 σ H1 Q I1 q1
  | false => exact ⟨.bl false, H1, I1, rfl, q1⟩
theorem pe_not (ha : PE X a ta) : PE X (.UnaryOp .Not a pos) (tNotV ta) := by
  intro pins s σ H Q I h
  refine UnaryOp_ (thn (ha pins s σ H _ I h) fun v s1 ⟨x, H1, I1, r1, q1⟩ => ?_)
  obtain ⟨c, rfl, q1⟩ := q1
  cases r1
  exact not_of (wpAny_truthy_bool ⟨.bl (!c), H1, I1, rfl, q1⟩)
/-- a if t else b -/
def tIf (t : TT) (ta tb : TE) : TE := fun σ H Q => t σ H fun c H1 => if c = true then ta σ H1 Q else tb σ H1 Q
theorem pe_ifExp {c : Expr} (hc : PT X c tA) (ha : PE X a ta) (hb : PE X b tb) : PE X (.IfExp c a b pos) (tIf tA ta tb) := by
  intro pins s σ H Q I h
  refine wpAny_IfExp (thn (hc pins s σ H _ I h) fun d s1 ⟨H1, I1, q1⟩ => ?_)
  cases d with
  | true => exact ha pins s1 σ H1 Q I1 q1
  | false => exact hb pins s1 σ H1 Q I1 q1
end
end L2

namespace L2
open PySem PySem.Spec PyProof.Rows

/-! ### a list, a tuple that is read: tracked, frozen, or an object of the module -/
def SqL (K : PySem.W.Frag) (H : Hp) (a : Addr) (xs : List V) : Prop :=
  Rd H a (.lst xs) ∨
    ∃ (o : Obj) (its : Array Value) (n : Nat), K.lookup a = some o ∧ o.cls = .type "list" ∧ o.dict = none ∧ o.data = .seq its n ∧ its.size ≤ sizeLine ∧ Vals xs its.toList
def SqT (K : PySem.W.Frag) (H : Hp) (a : Addr) (xs : List V) : Prop :=
  Rd H a (.tup xs) ∨
    ∃ (o : Obj) (its : Array Value) (n : Nat), K.lookup a = some o ∧ o.cls = .type "tuple" ∧ o.data = .seq its n ∧ its.size ≤ sizeLine ∧ Vals xs its.toList
def absV : Value → Option V
  | .none => some .non
  | .bool b => some (.bl b)
  | .int i _ => some (.int i)
  | .str x _ => some (.str x)
  | .bytes b _ => some (.byt b)
  | .float b _ => some (.flt b)
  | .ref a => some (.ref a)
  | .type n => some (.ty n)
  | _ => none
theorem RelV.abs {x : V} {u : Value} (r : RelV x u) : absV u = some x := by
  cases x with
  | non => cases r; rfl
  | bl _ => cases r; rfl
  | int _ => obtain ⟨t, rfl⟩ := r; rfl
  | str _ => obtain ⟨t, rfl⟩ := r; rfl
  | byt _ => obtain ⟨t, rfl⟩ := r; rfl
  | flt _ => obtain ⟨t, rfl⟩ := r; rfl
  | ref _ => cases r; rfl
  | ty _ => cases r; rfl
theorem RelV.inj {x y : V} {u : Value} (r : RelV x u) (q : RelV y u) : x = y := Option.some.inj (r.abs.symm.trans q.abs)
theorem Vals.inj : ∀ {xs ys : List V} {us : List Value}, Vals xs us → Vals ys us → xs = ys
  | _, _, _, .nil, .nil => rfl
  | _, _, _, .cons r t, .cons r' t' => by rw [r.inj r', Vals.inj t t']
section
variable {X : Cx} {pins : List (Addr × Obj)} {σ : St} {H : Hp} {s : Shared} {a : Addr} {xs ys : List V}
theorem SqL.of {K : PySem.W.Frag} (h : H a = some (.lst xs)) : SqL K H a xs := .inl (.inl h)
theorem SqT.of {K : PySem.W.Frag} (h : H a = some (.tup xs)) : SqT K H a xs := .inl (.inl h)
theorem Inv.list (I : Inv X pins σ H s) (h : SqL X.K H a xs) : ∃ its : List Value, Vals xs its ∧ PlainL s.heap a its.toArray ∧ xs.length ≤ sizeLine := by
  rcases h with h | ⟨o, its, n, hk, hc, hd, hs, hz, r⟩
  · obtain ⟨z, its, n, r, e⟩ := h.ok I.hok
    exact ⟨its, r, ⟨_, n, e, rfl, rfl, rfl⟩, z⟩
  · refine ⟨its.toList, r, ⟨o, n, I.kIn a o hk, hc, hd, by simpa using hs⟩, ?_⟩
    have e := r.length
    simp only [Array.length_toList] at e
    omega
theorem Inv.tuple (I : Inv X pins σ H s) (h : SqT X.K H a xs) : ∃ its : List Value, Vals xs its ∧ IsTup s.heap a its.toArray ∧ xs.length ≤ sizeLine := by
  rcases h with h | ⟨o, its, n, hk, hc, hs, hz, r⟩
  · obtain ⟨z, its, r, p⟩ := h.ok I.hok
    exact ⟨its, r, p, z⟩
  · refine ⟨its.toList, r, ⟨o, I.kIn a o hk, hc, n, by simpa using hs⟩, ?_⟩
    have e := r.length
    simp only [Array.length_toList] at e
    omega
theorem Inv.list_inj (I : Inv X pins σ H s) (h : SqL X.K H a xs) (h' : SqL X.K H a ys) : xs = ys := by
  obtain ⟨its, r, ⟨o, n, e, _, _, d⟩, _⟩ := I.list h
  obtain ⟨its', r', ⟨o', n', e', _, _, d'⟩, _⟩ := I.list h'
  rw [e] at e'; cases e'
  rw [d] at d'
  injection d' with d1 _
  have : its = its' := by simpa using congrArg Array.toList d1
  subst this
  exact r.inj r'
theorem Inv.tuple_inj (I : Inv X pins σ H s) (h : SqT X.K H a xs) (h' : SqT X.K H a ys) : xs = ys := by
  obtain ⟨its, r, ⟨o, e, _, n, d⟩, _⟩ := I.tuple h
  obtain ⟨its', r', ⟨o', e', _, n', d'⟩, _⟩ := I.tuple h'
  rw [e] at e'; cases e'
  rw [d] at d'
  injection d' with d1 _
  have : its = its' := by simpa using congrArg Array.toList d1
  subst this
  exact r.inj r'
end

/-! ### another wish about exceptions -/
abbrev Cx.wish (X : Cx) (E : Value → Shared → Prop) : Cx := { X with xe := E }
/-- no exception leaves -/
abbrev Cx.nox (X : Cx) : Cx := X.wish fun _ _ => False
theorem Cx.Ok.wish {X : Cx} (ok : X.Ok) (E : Value → Shared → Prop) : (X.wish E).Ok :=
  ⟨ok.mod, ok.kind, ok.glob, ok.blt, ok.above, ok.inj, ok.has, ok.cab, ok.hd, ok.frames, ok.stk, ok.exf, ok.bs, ok.bsz, ok.noex, ok.exfs, ok.funs, ok.frf⟩
theorem Cx.Ok.unwish {X : Cx} {E : Value → Shared → Prop} (ok : (X.wish E).Ok) : X.Ok :=
  ⟨ok.mod, ok.kind, ok.glob, ok.blt, ok.above, ok.inj, ok.has, ok.cab, ok.hd, ok.frames, ok.stk, ok.exf, ok.bs, ok.bsz, ok.noex, ok.exfs, ok.funs, ok.frf⟩
section
variable {X : Cx} {pins : List (Addr × Obj)} {σ : St} {H : Hp} {s : Shared} {E : Value → Shared → Prop}
theorem Inv.wish (I : Inv X pins σ H s) (E : Value → Shared → Prop) : Inv (X.wish E) pins σ H s := ⟨I.ok.wish E, I.os, I.bare, I.base, I.loc, I.cell, I.free, I.freeC, I.pin, I.hok, I.len⟩
theorem Inv.unwish (I : Inv (X.wish E) pins σ H s) : Inv X pins σ H s := ⟨I.ok.unwish, I.os, I.bare, I.base, I.loc, I.cell, I.free, I.freeC, I.pin, I.hok, I.len⟩
theorem SP.unwish {D : Ends} {f : Flow} {s' : Shared} (h : SP (X.wish E) pins D f s') : SP X pins D f s' := by
  cases f with
  | next => obtain ⟨σ', H', I, q⟩ := h; exact ⟨σ', H', I.unwish, q⟩
  | brk => obtain ⟨σ', H', I, q⟩ := h; exact ⟨σ', H', I.unwish, q⟩
  | cont => obtain ⟨σ', H', I, q⟩ := h; exact ⟨σ', H', I.unwish, q⟩
  | ret u => obtain ⟨v, σ', H', I, r, q⟩ := h; exact ⟨v, σ', H', I.unwish, r, q⟩
theorem PE.nox {e : Expr} {t : TE} (h : PE X.nox e t) : PE X e t := fun pins s σ H Q I hw =>
  wpAny_mono (h pins s σ H Q (I.wish _) hw) (fun _ _ ⟨v, H', I', r, q⟩ => ⟨v, H', I'.unwish, r, q⟩) fun _ _ z => False.elim z
theorem PT.nox {e : Expr} {t : TT} (h : PT X.nox e t) : PT X e t := fun pins s σ H Q I hw =>
  wpAny_mono (h pins s σ H Q (I.wish _) hw) (fun _ _ ⟨H', I', q⟩ => ⟨H', I'.unwish, q⟩) fun _ _ z => False.elim z
theorem PSs.nox {st : List Stmt} {t : TS} (h : PSs X.nox st t) : PSs X st t := fun pins s σ H D I hw =>
  wpAny_mono (h pins s σ H D (I.wish _) hw) (fun _ _ q => q.unwish) fun _ _ z => False.elim z
end

/-! ### blocks and small statements -/
section
variable {X : Cx} {st : Stmt} {rest : List Stmt} {t u : TS} {e : Expr} {te : TE} {pos : Pos}
def tNext : TS := fun D σ H => D.nx σ H
def tSeq (t u : TS) : TS := fun D σ H => t { D with nx := u D } σ H
theorem pss_nil : PSs X [] tNext := fun _ _ σ H _ I h => wpAny_execs_nil ⟨σ, H, I, h⟩
theorem pss_cons (h1 : PS X st t) (h2 : PSs X rest u) : PSs X (st :: rest) (tSeq t u) := by
  intro pins s σ H D I h
  refine wpAny_execs_cons (thn (h1 pins s σ H { D with nx := u D } I h) fun f s1 q => ?_)
  cases f with
  | next =>
    obtain ⟨σ', H', I', q⟩ := q
    exact h2 pins s1 σ' H' D I' q
  | ret v => exact q
  | brk => exact q
  | cont => exact q
theorem pss_one (h1 : PS X st t) : PSs X [st] t := by
  intro pins s σ H D I h
  refine wpAny_execs_cons (thn (h1 pins s σ H D I h) fun f s1 q => ?_)
  cases f with
  | next => exact wpAny_execs_nil q
  | ret v => exact q
  | brk => exact q
  | cont => exact q
/-- in a def's body nothing is shown -/
theorem Inv.quiet {pins : List (Addr × Obj)} {σ : St} {H : Hp} {s : Shared} (I : Inv X pins σ H s) : interactive X.env = false := by simp [interactive, I.ok.kind]
/-- an expression whose value is dropped -/
def tDrop (te : TE) : TS := fun D σ H => te σ H fun _ H1 => D.nx σ H1
theorem ps_expr (he : PE X e te) (hs : swapsWith e none pos.line X.env = pure false := by rfl) : PS X (.Expr e pos) (tDrop te) := by
  intro pins s σ H D I h
  exact wpAny_Expr_any (thn (he pins s σ H _ I h) fun v s1 ⟨x, H1, I1, r1, q1⟩ => ⟨σ, H1, I1, q1⟩) I.quiet hs
def tRet (te : TE) : TS := fun D σ H => te σ H D.rt
theorem ps_ret (he : PE X e te) : PS X (.Return (some e) pos) (tRet te) := by
  intro pins s σ H D I h
  exact wpAny_Return_some (thn (he pins s σ H _ I h) fun v s1 ⟨x, H1, I1, r1, q1⟩ => ⟨x, σ, H1, I1, r1, q1⟩)
def tIfS (c : TT) (t u : TS) : TS := fun D σ H => c σ H fun b H1 => if b = true then t D σ H1 else u D σ H1
theorem ps_if {c : Expr} {a b : List Stmt} {tc : TT} (hc : PT X c tc) (ha : PSs X a t) (hb : PSs X b u) : PS X (.If c a b pos) (tIfS tc t u) := by
  intro pins s σ H D I h
  refine wpAny_If (thn (hc pins s σ H _ I h) fun d s1 ⟨H1, I1, q1⟩ => ?_)
  cases d with
  | true => exact ha pins s1 σ H1 D I1 q1
  | false => exact hb pins s1 σ H1 D I1 q1
end

/-! ### targets -/
abbrev TG := V → St → Hp → (St → Hp → Prop) → Prop
abbrev TGs := List V → St → Hp → (St → Hp → Prop) → Prop
def PG (X : Cx) (target : Expr) (t : TG) : Prop :=
  ∀ (pins : List (Addr × Obj)) (s : Shared) (σ : St) (H : Hp) (v : V) (u : Value) (Q : St → Hp → Prop), Inv X pins σ H s → RelV v u → t v σ H Q →
    wpAny (model X.prog X.w) X.A (assign target X.env u) (fun _ s' => ∃ σ' H', Inv X pins σ' H' s' ∧ Q σ' H') X.xe s
/-- several targets, one after another -/
def PGs (X : Cx) (ts : List Expr) (t : TGs) : Prop :=
  ∀ (pins : List (Addr × Obj)) (s : Shared) (σ : St) (H : Hp) (vs : List V) (us : List Value) (Q : St → Hp → Prop), Inv X pins σ H s → Vals vs us → t vs σ H Q →
    wpAny (model X.prog X.w) X.A (assignInOrder ((assignEach ts X.env).map (·.2)) us) (fun _ s' => ∃ σ' H', Inv X pins σ' H' s' ∧ Q σ' H') X.xe s
/-- o[i] = v, by values -/
abbrev TSet := V → V → V → Hp → (Hp → Prop) → Prop
def PSet (X : Cx) (t : TSet) : Prop :=
  ∀ (pins : List (Addr × Obj)) (s : Shared) (σ : St) (H : Hp) (o i v : V) (ov iv u : Value) (Q : Hp → Prop), Inv X pins σ H s → RelV o ov → RelV i iv → RelV v u → t o i v H Q →
    wpAny (model X.prog X.w) X.A (setItem ov iv u) (fun _ s' => ∃ H', Inv X pins σ H' s' ∧ Q H') X.xe s
/-- a op= b, by values -/
abbrev TIp := V → V → Hp → VK → Prop
def PIp (X : Cx) (op : Operator) (t : TIp) : Prop :=
  ∀ (pins : List (Addr × Obj)) (s : Shared) (σ : St) (H : Hp) (x y : V) (v u : Value) (Q : VK), Inv X pins σ H s → RelV x v → RelV y u → t x y H Q →
    wpAny (model X.prog X.w) X.A (inplaceOp op v u) (EP X pins σ Q) X.xe s
section
variable {X : Cx} {pos : Pos}
def gName (i : Nat) : TG := fun v σ H Q => Q (σ.set i (some v)) H
theorem pg_name {i : Nat} {x : Str} (hN : X.N.Nodup) (hi : X.N[i]? = some x) (hx : Loc X.env.scope x) (hf : X.fn x = true ∨ X.env.scope.names.lookup x = some .local := by first | exact .inl rfl | exact .inr rfl | assumption) : PG X (.Name x pos) (gName i) := by
  intro pins s σ H v u Q I r h
  exact wpAny_assign_Name (store_ok I hN hi hx r (fun s' I' => ⟨_, H, I', h⟩) hf)
def gNil : TGs := fun vs σ H Q => vs = [] ∧ Q σ H
def gCons (t : TG) (u : TGs) : TGs := fun vs σ H Q => ∃ v r, vs = v :: r ∧ t v σ H fun σ' H' => u r σ' H' Q
theorem pgs_nil : PGs X [] gNil := by
  intro pins s σ H vs us Q I r h
  obtain ⟨e, h⟩ := h
  subst e
  cases r
  exact assignInOrder_nil ⟨σ, H, I, h⟩
theorem pgs_cons {e : Expr} {es : List Expr} {t : TG} {u : TGs} (h1 : PG X e t) (h2 : PGs X es u)
    (hs : (assignEach (e :: es) X.env).map (·.2) = assign e X.env :: (assignEach es X.env).map (·.2) := by rfl) : PGs X (e :: es) (gCons t u) := by
  intro pins s σ H vs us Q I r h
  obtain ⟨v, vr, e1, h⟩ := h
  subst e1
  cases r with
  | cons r rr =>
    rw [hs]
    refine assignInOrder_cons (thn (h1 pins s σ H _ _ _ I r h) fun _ s1 ⟨σ1, H1, I1, q1⟩ => ?_)
    exact h2 pins s1 σ1 H1 _ _ Q I1 rr q1
/-- (a, b, ..) = a tuple of that length -/
def gTup (K : PySem.W.Frag) (n : Nat) (t : TGs) : TG := fun v σ H Q => ∃ a xs, v = .ref a ∧ SqT K H a xs ∧ xs.length = n ∧ t xs σ H Q
theorem pg_tup {es : List Expr} {k : Nat} {t : TGs} {n : Nat} (hc : X.calm = true) (h : PGs X es t)
    (hn : (assignEach es X.env).length = n := by rfl) (hst : (assignEach es X.env).findIdx? (·.1) = none := by rfl) : PG X (.Tuple es k pos) (gTup X.K n t) := by
  intro pins s σ H v u Q I r hw
  obtain ⟨a, xs, e1, hq, hl, hw⟩ := hw
  subst e1
  cases r
  obtain ⟨its, rv, ht, hz⟩ := I.tuple hq
  refine assign_Tuple_tuple (I.ok.hd hc) ht (by simp [hn, ← hl, rv.length]) hst fun h' hx => ?_
  have I1 : Inv X pins σ H { s with heap := h' } := I.kept (t' := s.toks) fun b o e => hx b o (Nat.ne_of_lt (Heap.lt_size e)) e
  exact h pins _ σ H xs _ Q I1 (by simpa using rv) hw
/-- o[i] = .. -/
def gSub (to ti : TE) (t : TSet) : TG := fun v σ H Q => to σ H fun o H1 => ti σ H1 fun i H2 => t o i v H2 fun H3 => Q σ H3
theorem pg_sub {o i : Expr} {to ti : TE} {t : TSet} (ho : PE X o to) (hi : PE X i ti) (hs : PSet X t)
    (ha : ∀ v, assign (.Subscript o i pos) X.env v = (do
      let ov ← holding [v] (eval o X.env)
      let iv ← holding [v, ov] (eval i X.env)
      standAt pos
      holding [v, ov, iv] (setItem ov iv v)
      release [v, ov, iv] []) := by intro _; rfl) : PG X (.Subscript o i pos) (gSub to ti t) := by
  intro pins s σ H v u Q I r h
  rw [ha]
  refine wpAny_bind (wpAny_holding (thn (ho pins s σ H _ I h) fun ov s1 ⟨x, H1, I1, r1, q1⟩ => ?_))
  refine wpAny_bind (wpAny_holding (thn (hi pins s1 σ H1 _ I1 q1) fun iv s2 ⟨y, H2, I2, r2, q2⟩ => ?_))
  refine wpAny_bind (wpAny_standAt (wpAny_bind (wpAny_holding (thn (hs pins s2 σ H2 x y v ov iv u _ I2 r1 r2 r q2) fun _ s3 ⟨H3, I3, q3⟩ => ?_))))
  exact wpAny_release ⟨σ, H3, I3, q3⟩
/-- target = value -/
def tAsg (te : TE) (g : TG) : TS := fun D σ H => te σ H fun x H1 => g x σ H1 D.nx
theorem ps_asg {tg e : Expr} {te : TE} {g : TG} (he : PE X e te) (hg : PG X tg g) (hs : swapsWithSole [tg] e pos.line X.env = pure false := by rfl) (hw : swappedStores [tg] e X.env = pure none := by rfl)
    (h1 : (assignEach [tg] X.env).map (·.2) = [assign tg X.env] := by rfl) : PS X (.Assign [tg] e pos) (tAsg te g) := by
  intro pins s σ H D I h
  refine wpAny_Assign_stores (thn (he pins s σ H _ I h) fun v s1 ⟨x, H1, I1, r1, q1⟩ => ?_) hs hw
  rw [h1]
  exact thn (hg pins s1 σ H1 x v _ I1 r1 q1) fun _ s2 q => q
/-- name = value -/
theorem ps_set {i : Nat} {x : Str} {e : Expr} {te : TE} {pos' : Pos} (hN : X.N.Nodup) (hi : X.N[i]? = some x) (hx : Loc X.env.scope x) (he : PE X e te) (hs : swapsWith e (some (.Name x pos')) pos.line X.env = pure false := by rfl) (hf : X.fn x = true ∨ X.env.scope.names.lookup x = some .local := by first | exact .inl rfl | exact .inr rfl | assumption) :
    PS X (.Assign [.Name x pos'] e pos) (tAsg te (gName i)) := by
  intro pins s σ H D I h
  refine wpAny_Assign_Name (thn (he pins s σ H _ I h) fun v s1 ⟨y, H1, I1, r1, q1⟩ => ?_) hs
  exact store_ok I1 hN hi hx r1 (fun s2 I2 => ⟨_, H1, I2, q1⟩) hf
/-- name op= e -/
def tAug (i : Nat) (te : TE) (ti : TIp) : TS := fun D σ H => ∃ x, σ[i]? = some (some x) ∧ te σ H fun y H1 => ti x y H1 fun z H2 => D.nx (σ.set i (some z)) H2
theorem ps_aug {i : Nat} {x : Str} {e : Expr} {te : TE} {op : Operator} {ti : TIp} {pos' : Pos} (hN : X.N.Nodup) (hi : X.N[i]? = some x) (hx : Loc X.env.scope x) (he : PE X e te) (ho : PIp X op ti) (hf : X.fn x = true ∨ X.env.scope.names.lookup x = some .local := by first | exact .inl rfl | exact .inr rfl | assumption) :
    PS X (.AugAssign (.Name x pos') op e pos) (tAug i te ti) := by
  intro pins s σ H D I h
  obtain ⟨v, e1, h⟩ := h
  obtain ⟨m, hn, hl⟩ := I.loc
  have vis : Vis X.env.scope x := by rcases hx with k | k; exact .inl k; exact .inr (.inl k)
  obtain ⟨u, r, l⟩ := hl i x v hi e1 vis
  refine wpAny_AugAssign_Name ?_
  have go : wpAny (model X.prog X.w) X.A (eval e X.env) (fun w s₂ => wpAny (model X.prog X.w) X.A (inplaceOp op u w) (fun r s₃ => wpAny (model X.prog X.w) X.A (storeName X.env x r) (fun _ => SP X pins D .next) X.xe s₃) X.xe s₂) X.xe s := by
    refine thn (he pins s σ H _ I h) fun w s1 ⟨y, H1, I1, r1, q1⟩ => ?_
    refine thn (ho pins s1 σ H1 v y u w _ I1 r r1 q1) fun z s2 ⟨zv, H2, I2, r2, q2⟩ => ?_
    exact store_ok I2 hN hi hx r2 (fun s3 I3 => ⟨_, H2, I3, q2⟩) hf
  rcases l with ⟨hk, hm⟩ | ⟨hk, c, hc, hcell⟩
  · exact wpAny_loadName_local I.ok.kind hk hn hm go
  · rcases hk with hk | hk
    · exact wpAny_loadName_cell I.ok.kind hk hc hcell go
    · rcases hx with k | k
      · have : X.env.scope.names.lookup x = some .free := hk
        rw [k] at this; cases this
      · have : X.env.scope.names.lookup x = some .free := hk
        rw [k] at this; cases this
/-- ints -/
def ipI (f : Int → Int → Int) : TIp := fun x y H Q => ∃ i j, x = .int i ∧ y = .int j ∧ Q (.int (f i j)) H
theorem ip_add : PIp X .Add (ipI fun i j => i + j) := by
  intro pins s σ H x y v u Q I r1 r2 h
  obtain ⟨i, j, e1, e2, q⟩ := h
  subst e1; subst e2
  obtain ⟨t, rfl⟩ := r1
  obtain ⟨t', rfl⟩ := r2
  exact iadd_int ⟨.int _, H, I.tok _, ⟨_, rfl⟩, q⟩
end

/-! ### while -/
section
variable {X : Cx} {pos : Pos}
/-- the invariant W with its measure -/
def tWhile (c : TT) (tb : TS) : TS := fun D σ H => ∃ W : Nat → St → Hp → Prop, (∃ m, W m σ H) ∧ ∀ m σ H, W m σ H →
  c σ H fun b H1 => if b = true then ∃ N : St → Hp → Prop, (∀ σ' H', N σ' H' → ∃ m', m' < m ∧ W m' σ' H') ∧ tb { D with nx := N, ct := N, bk := D.nx } σ H1 else D.nx σ H1
theorem ps_while {c : Expr} {body : List Stmt} {tc : TT} {tb : TS} (hp : PassesOwn (model X.prog X.w) X.A X.env X.xe) (hc : PT X c tc) (hb : PSs X body tb) : PS X (.While c body [] pos) (tWhile tc tb) := by
  intro pins s σ H D I h
  obtain ⟨W, ⟨m0, w0⟩, turn⟩ := h
  refine wpAny_While (codeAny_whileLoop (fun n s' => ∃ σ' H', Inv X pins σ' H' s' ∧ W n σ' H') ?_ m0 ⟨σ, H, I, w0⟩)
  rintro n s1 ⟨σ1, H1, I1, w1⟩
  refine wpAny_passesOwn hp (thn (hc pins s1 σ1 H1 _ I1 (turn n σ1 H1 w1)) fun b s2 ⟨H2, I2, q2⟩ => ?_)
  cases b with
  | true =>
    obtain ⟨N, hN, q2⟩ := q2
    rw [if_pos rfl]
    refine wpAny_passesOwn hp (thn (hb pins s2 σ1 H2 _ I2 q2) fun f s3 q3 => ?_)
    cases f with
    | next =>
      obtain ⟨σ3, H3, I3, n3⟩ := q3
      obtain ⟨m', hm, w3⟩ := hN σ3 H3 n3
      exact ⟨m', hm, σ3, H3, I3, w3⟩
    | cont =>
      obtain ⟨σ3, H3, I3, n3⟩ := q3
      obtain ⟨m', hm, w3⟩ := hN σ3 H3 n3
      exact ⟨m', hm, σ3, H3, I3, w3⟩
    | brk => exact q3
    | ret v => exact q3
  | false =>
    rw [if_neg Bool.false_ne_true]
    exact wpAny_execs_nil ⟨σ1, H2, I2, q2⟩
end

/-! ### what a loop or a comprehension walks -/
/-- at turn i: it yields x (the heap may grow), or it stops -/
structure It where
  go : Nat → Hp → Prop
  yld : Nat → Hp → V → Hp → Prop
  stop : Nat → Hp → Prop
/-- the iterator's own objects may turn: they are not the frame's, not pinned, younger than the entry (or a comprehension's own) -/
def FpOk (X : Cx) (pins : List (Addr × Obj)) (H : Hp) (b : Addr) : Prop :=
  H b = none ∧ b ≠ X.env.locals ∧ b ∉ X.fs ∧ (b ∈ X.ex ∨ X.s₀.heap.objs.size ≤ b) ∧ (∀ x c, X.env.cells.lookup x = some c → c ≠ b) ∧ ∀ p ∈ X.pn ++ pins, p.1 ≠ b
theorem Inv.fpOk {X : Cx} {pins : List (Addr × Obj)} {σ : St} {H H' : Hp} {s : Shared} {b : Addr} (I : Inv X pins σ H s) (hb : s.heap.objs.size ≤ b) (hn : H' b = none) : FpOk X pins H' b := by
  refine ⟨hn, Nat.ne_of_gt (Nat.lt_of_lt_of_le I.lt hb), I.nofs hb, .inr (Nat.le_trans I.sz hb), fun x c e z => ?_, fun p hp z => ?_⟩
  · obtain ⟨v, q⟩ := I.cell x c e
    exact absurd (Nat.lt_of_lt_of_le q.lt (by rw [z]; exact hb)) (Nat.lt_irrefl _)
  · exact absurd (Nat.lt_of_lt_of_le (Heap.lt_size (I.pin p hp).1) (by rw [z]; exact hb)) (Nat.lt_irrefl _)
structure Turn (P : Program) (w : World) (K : PySem.W.Frag) (tg : Expr) (J : It) (fp : List Addr) (it : Addr) (tn : Nat → Heap → Prop) : Prop where
  mem : it ∈ fp
  obj : ∀ i h, tn i h → ∀ b ∈ fp, ∃ o, h.get? b = some o ∧ ∀ v, o.data ≠ .cell v
  keep : ∀ i h h', tn i h → (∀ b ∈ fp, ∀ o, h.get? b = some o → h'.get? b = some o) → tn i h'
  item : ∀ (X : Cx), X.prog = P → X.w = w → X.K = K → X.calm = true → ∀ (i : Nat) (pins : List (Addr × Obj)) (s : Shared) (σ : St) (H : Hp) (E : Value → Shared → Prop), Inv X pins σ H s → (∀ b ∈ fp, FpOk X pins H b) → tn i s.heap → J.go i H →
    wpAny (model P w) X.A (pyNext (.ref it)) (fun r s1 => ∃ u, r = some u ∧
      wpAny (model P w) X.A (letOwnedTupleGo tg (.ref it) u) (fun _ s2 => ∃ x H', Inv X pins σ H' s2 ∧ RelV x u ∧ J.yld i H x H' ∧ tn (i + 1) s2.heap ∧ ∀ b ∈ fp, H' b = none) E s1) E s
  done : ∀ (X : Cx), X.prog = P → X.w = w → X.K = K → X.calm = true → ∀ (i : Nat) (pins : List (Addr × Obj)) (s : Shared) (σ : St) (H : Hp) (E : Value → Shared → Prop), Inv X pins σ H s → (∀ b ∈ fp, FpOk X pins H b) → tn i s.heap → J.stop i H →
    wpAny (model P w) X.A (pyNext (.ref it)) (fun r s1 => r = none ∧ Inv X pins σ H s1) E s
  self : ∀ (A : Around) (i : Nat) (s : Shared) (Q : Value → Shared → Prop) (E : Value → Shared → Prop), tn i s.heap → Q (.ref it) s → wpAny (model P w) A (pyIter (.ref it)) Q E s
abbrev TI := St → Hp → (It → Hp → Prop) → Prop
/-- an iterator has come -/
def PIE (X : Cx) (pins : List (Addr × Obj)) (σ : St) (tg : Expr) (R : It → Hp → Prop) (itv : Value) (s2 : Shared) : Prop :=
  ∃ (it : Addr) (fp : List Addr) (tn : Nat → Heap → Prop) (J : It) (H' : Hp), itv = .ref it ∧ Inv X pins σ H' s2 ∧ Turn X.prog X.w X.K tg J fp it tn ∧ tn 0 s2.heap ∧ (∀ b ∈ fp, FpOk X pins H' b) ∧ R J H'
def PI (X : Cx) (tg iter : Expr) (wi : TI) : Prop :=
  ∀ (pins : List (Addr × Obj)) (s : Shared) (σ : St) (H : Hp) (R : It → Hp → Prop), Inv X pins σ H s → wi σ H R →
    wpAny (model X.prog X.w) X.A (eval iter X.env) (fun v s1 => wpAny (model X.prog X.w) X.A (pyIter v) (PIE X pins σ tg R) X.xe s1) X.xe s

/-- the step ahead of the store is nothing for an iterator that keeps no tuple -/
theorem go_of {M : Model} {A : Around} {E : Value → Shared → Prop} {s : Shared} {tg : Expr} {it : Addr} {u : Value} {o : Obj} {n : String} {vs : Array Value} {Q : Unit → Shared → Prop} (ho : s.heap.get? it = some o) (hc : o.cls = .type n) (hd : o.data = .fields vs)
    (hn : ["enumerate", "zip", "dict_itemiterator", "dict_reverseitemiterator", "odict_iterator", "itertools.zip_longest", "itertools.pairwise"].contains n = false) (hQ : Q () s) : wpAny M A (letOwnedTupleGo tg (.ref it) u) Q E s := by
  unfold letOwnedTupleGo
  cases tg <;> first
    | exact wpAny_pure hQ
    | (cases u <;> first
        | exact wpAny_pure hQ
        | (refine wpAny_bind (wpAny_load ho ?_)
           rw [hc, hd]
           show wpAny M A (if (["enumerate", "zip", "dict_itemiterator", "dict_reverseitemiterator", "odict_iterator", "itertools.zip_longest", "itertools.pairwise"].contains n && vs[0]? == some (rawInt _)) = true then _ else _) Q E s
           rw [if_neg (by intro h; rw [hn, Bool.false_and] at h; cases h)]
           exact wpAny_pure hQ))

/-- the list at a, as it stands at each turn (a loop may append to it) -/
def Itl (K : PySem.W.Frag) (a : Addr) : It :=
  ⟨fun i H => ∃ xs x, SqL K H a xs ∧ xs[i]? = some x, fun i H x H' => H' = H ∧ ∀ xs, SqL K H a xs → xs[i]? = some x, fun i H => ∃ xs, SqL K H a xs ∧ xs.length ≤ i⟩
def Itt (K : PySem.W.Frag) (a : Addr) : It :=
  ⟨fun i H => ∃ xs x, SqT K H a xs ∧ xs[i]? = some x, fun i H x H' => H' = H ∧ ∀ xs, SqT K H a xs → xs[i]? = some x, fun i H => ∃ xs, SqT K H a xs ∧ xs.length ≤ i⟩
/-- lo, lo + 1, .. (n of them) -/
def Itr (lo : Int) (n : Nat) : It := ⟨fun i _ => i < n, fun i H x H' => H' = H ∧ x = .int (lo + i), fun i _ => n ≤ i⟩
theorem turn_list {P : Program} {w : World} {K : PySem.W.Frag} {tg : Expr} (a it : Addr) : Turn P w K tg (Itl K a) [it] it (fun i h => h.IsListIter it a i) where
  mem := by simp
  obj := fun i h st b hb => by
    have e : b = it := by simpa using hb
    subst e
    obtain ⟨o, e, c, d⟩ := st
    exact ⟨o, e, fun v z => by rw [d] at z; cases z⟩
  keep := fun i h h' st k => st.at fun o e => k it (by simp) o e
  item := by
    intro X hP hw hK hc i pins s σ H E I hf st hg
    subst hP hw hK
    obtain ⟨xs, x, hq, hx⟩ := hg
    obtain ⟨its, rv, p, hz⟩ := I.list hq
    obtain ⟨u, hu, ru⟩ := rv.get hx
    obtain ⟨f0, f1, f2, f3, f4, f5⟩ := hf it (by simp)
    refine wpAny_pyNext_list_item st p.isList (x := u) (by simpa using hu) fun h' st' sb => ?_
    have I1 : Inv X pins σ H { s with heap := h' } := I.turned (t' := s.toks) (fun b o hb e => (sb.2 b hb).trans e) f0 f1 f3 f4 f5
    obtain ⟨o, e, c, d⟩ := id st'
    exact ⟨u, rfl, go_of (s := { s with heap := h' }) e c d (by decide) ⟨x, H, I1, ru, ⟨rfl, fun ys hy => by rw [I.list_inj hy hq]; exact hx⟩, st', fun b hb => (hf b hb).1⟩⟩
  done := by
    intro X hP hw hK hc i pins s σ H E I hf st hg
    subst hP hw hK
    obtain ⟨xs, hq, hx⟩ := hg
    obtain ⟨its, rv, p, hz⟩ := I.list hq
    obtain ⟨f0, f1, f2, f3, f4, f5⟩ := hf it (by simp)
    have hl := rv.length
    exact wpAny_pyNext_list_end (I.ok.hd hc) st p.isList (by simp; omega) fun h' eb => ⟨rfl, I.turned (t' := s.toks) (fun b o hb e => eb b o hb e) f0 f1 f3 f4 f5⟩
  self := fun _ _ _ _ _ st h => wpAny_pyIter_listiter st h
theorem turn_tuple {P : Program} {w : World} {K : PySem.W.Frag} {tg : Expr} (a it : Addr) : Turn P w K tg (Itt K a) [it] it (fun i h => h.IsTupleIter it a i) where
  mem := by simp
  obj := fun i h st b hb => by
    have e : b = it := by simpa using hb
    subst e
    obtain ⟨o, e, c, d⟩ := st
    exact ⟨o, e, fun v z => by rw [d] at z; cases z⟩
  keep := fun i h h' st k => st.at fun o e => k it (by simp) o e
  item := by
    intro X hP hw hK hc i pins s σ H E I hf st hg
    subst hP hw hK
    obtain ⟨xs, x, hq, hx⟩ := hg
    obtain ⟨its, rv, p, hz⟩ := I.tuple hq
    obtain ⟨u, hu, ru⟩ := rv.get hx
    obtain ⟨f0, f1, f2, f3, f4, f5⟩ := hf it (by simp)
    refine wpAny_pyNext_tuple_item st (show s.heap.IsTuple a its.toArray from p) (x := u) (by simpa using hu) fun h' st' sb => ?_
    have I1 : Inv X pins σ H { s with heap := h' } := I.turned (t' := s.toks) (fun b o hb e => (sb.2 b hb).trans e) f0 f1 f3 f4 f5
    obtain ⟨o, e, c, d⟩ := id st'
    exact ⟨u, rfl, go_of (s := { s with heap := h' }) e c d (by decide) ⟨x, H, I1, ru, ⟨rfl, fun ys hy => by rw [I.tuple_inj hy hq]; exact hx⟩, st', fun b hb => (hf b hb).1⟩⟩
  done := by
    intro X hP hw hK hc i pins s σ H E I hf st hg
    subst hP hw hK
    obtain ⟨xs, hq, hx⟩ := hg
    obtain ⟨its, rv, p, hz⟩ := I.tuple hq
    obtain ⟨f0, f1, f2, f3, f4, f5⟩ := hf it (by simp)
    have hl := rv.length
    exact wpAny_pyNext_tuple_end (I.ok.hd hc) st (show s.heap.IsTuple a its.toArray from p) (by simp; omega) fun h' eb => ⟨rfl, I.turned (t' := s.toks) (fun b o hb e => eb b o hb e) f0 f1 f3 f4 f5⟩
  self := fun _ _ _ _ _ st h => wpAny_pyIter_tupleiter st h
theorem turn_range {P : Program} {w : World} {K : PySem.W.Frag} {tg : Expr} (it : Addr) (lo : Int) (n : Nat) : Turn P w K tg (Itr lo n) [it] it (fun i h => IsRangeIter h it (lo + (i : Nat) * 1) ((n : Int) - (i : Nat)) 1) where
  mem := by simp
  obj := fun i h st b hb => by
    have e : b = it := by simpa using hb
    subst e
    exact ⟨_, st, fun v z => by
      have z' : Data.fields _ = Data.cell v := z
      cases z'⟩
  keep := fun i h h' st k => k it (by simp) _ st
  item := by
    intro X hP hw hK hc i pins s σ H E I hf st hg
    subst hP hw hK
    obtain ⟨f0, f1, f2, f3, f4, f5⟩ := hf it (by simp)
    have W := Walks.range (prog := X.prog) (w := X.w) (I.ok.hd hc) it lo 1 n
    refine W.item i s _ _ hg st fun v h' tk hv st' kk => ?_
    obtain ⟨t, rfl⟩ := hv
    have I1 : Inv X pins σ H { s with heap := h', toks := tk } := I.turned (fun b o hb e => kk b o (by simpa using hb) e) f0 f1 f3 f4 f5
    refine ⟨_, rfl, go_of (s := { s with heap := h', toks := tk }) (n := "range_iterator") st' rfl rfl (by decide) ⟨.int (lo + i), H, I1, ⟨t, ?_⟩, ⟨rfl, rfl⟩, st', fun b hb => (hf b hb).1⟩⟩
    rw [Int.mul_one]
  done := by
    intro X hP hw hK hc i pins s σ H E I hf st hg
    subst hP hw hK
    obtain ⟨f0, f1, f2, f3, f4, f5⟩ := hf it (by simp)
    exact wpAny_pyNext_range_end (I.ok.hd hc) st (by have : n ≤ i := hg; omega) fun h' eb => ⟨rfl, I.turned (t' := s.toks) (fun b o hb e => eb b o hb e) f0 f1 f3 f4 f5⟩
  self := fun _ _ _ _ _ st h => wpAny_pyIter_rangeiter st h
end L2

namespace L2
open PySem PySem.Spec PyProof.Rows
section
variable {X : Cx} {tg : Expr}
def iList (K : PySem.W.Frag) (tl : TE) : TI := fun σ H R => tl σ H fun x H1 => ∃ a, x = .ref a ∧ (∃ xs, SqL K H1 a xs) ∧ R (Itl K a) H1
def iTup (K : PySem.W.Frag) (tl : TE) : TI := fun σ H R => tl σ H fun x H1 => ∃ a, x = .ref a ∧ (∃ xs, SqT K H1 a xs) ∧ R (Itt K a) H1
theorem pi_list {l : Expr} {tl : TE} (hl : PE X l tl) : PI X tg l (iList X.K tl) := by
  intro pins s σ H R I h
  refine thn (hl pins s σ H _ I h) fun v s1 ⟨x, H1, I1, r1, q1⟩ => ?_
  obtain ⟨a, e, ⟨xs, hq⟩, q⟩ := q1
  subst e
  cases r1
  obtain ⟨its, rv, p, hz⟩ := I1.list hq
  refine wpAny_pyIter_list p.isList ?_
  refine ⟨s1.heap.objs.size, [s1.heap.objs.size], _, _, H1, rfl, I1.kept (t' := s1.toks) fun b o e => Heap.get?_push_of_some _ e, turn_list a _, ⟨_, Heap.get?_push_size _ rfl, rfl, rfl⟩, fun b hb => ?_, q⟩
  have e : b = s1.heap.objs.size := by simpa using hb
  subst e
  exact I1.fpOk (Nat.le_refl _) (I1.hok.fresh (Nat.le_refl _))
theorem pi_tup {l : Expr} {tl : TE} (hl : PE X l tl) : PI X tg l (iTup X.K tl) := by
  intro pins s σ H R I h
  refine thn (hl pins s σ H _ I h) fun v s1 ⟨x, H1, I1, r1, q1⟩ => ?_
  obtain ⟨a, e, ⟨xs, hq⟩, q⟩ := q1
  subst e
  cases r1
  obtain ⟨its, rv, p, hz⟩ := I1.tuple hq
  refine wpAny_pyIter_tuple (show s1.heap.IsTuple a its.toArray from p) ?_
  refine ⟨s1.heap.objs.size, [s1.heap.objs.size], _, _, H1, rfl, I1.kept (t' := s1.toks) fun b o e => Heap.get?_push_of_some _ e, turn_tuple a _, ⟨_, Heap.get?_push_size _ rfl, rfl, rfl⟩, fun b hb => ?_, q⟩
  have e : b = s1.heap.objs.size := by simpa using hb
  subst e
  exact I1.fpOk (Nat.le_refl _) (I1.hok.fresh (Nat.le_refl _))
/-- a range object just made, walked -/
theorem range_it {pins : List (Addr × Obj)} {σ : St} {H : Hp} {s : Shared} {R : It → Hp → Prop} {E : Value → Shared → Prop} {lo hi : Int} {t u v : Tok} {tk : Nat} (I : Inv X pins σ H s) (h1 : -(2 ^ 62) ≤ lo) (h2 : lo < 2 ^ 62) (h3 : -(2 ^ 62) ≤ hi) (h4 : hi < 2 ^ 62)
    (q : R (Itr lo (hi - lo).toNat) H) : wpAny (model X.prog X.w) X.A (pyIter (.ref s.heap.objs.size)) (PIE X pins σ tg R) E { s with heap := s.heap.push { cls := .type "range", data := .fields #[.int lo t, .int hi u, .int 1 v] }, toks := tk } := by
  refine wpAny_pyIter_range (IsRange.new ..) (small_one h1 h2 h3 h4) ?_
  have I1 : Inv X pins σ H { s with heap := s.heap.push { cls := .type "range", data := .fields #[.int lo t, .int hi u, .int 1 v] }, toks := tk } := I.kept fun b o e => Heap.get?_push_of_some _ e
  refine ⟨(s.heap.push { cls := .type "range", data := .fields #[.int lo t, .int hi u, .int 1 v] }).objs.size, [(s.heap.push { cls := .type "range", data := .fields #[.int lo t, .int hi u, .int 1 v] }).objs.size], _, _, H, rfl,
    I1.kept (t' := tk) fun b o e => Heap.get?_push_of_some _ e, turn_range _ lo (hi - lo).toNat, ?_, fun b hb => ?_, q⟩
  · have e1 : lo + ((0 : Nat) : Int) * 1 = lo := by simp
    have e2 : (((hi - lo).toNat : Nat) : Int) - ((0 : Nat) : Int) = Builtin.Range.rangeSize lo hi 1 := by rw [rangeSize_one]; split <;> omega
    show IsRangeIter _ _ (lo + ((0 : Nat) : Int) * 1) ((((hi - lo).toNat : Nat) : Int) - ((0 : Nat) : Int)) 1
    rw [e1, e2]
    exact Heap.get?_push_size _ rfl
  · have e : b = (s.heap.push { cls := .type "range", data := .fields #[.int lo t, .int hi u, .int 1 v] }).objs.size := by simpa using hb
    subst e
    exact I1.fpOk (Nat.le_refl _) (I1.hok.fresh (Nat.le_refl _))
def iRng1 (ta : TA) : TI := fun σ H R => ta σ H fun vs H1 => ∃ j : Int, vs = [.int j] ∧ -(2 ^ 62) ≤ j ∧ j < 2 ^ 62 ∧ R (Itr 0 j.toNat) H1
theorem pi_range1 {a : Expr} {ta : TA} {p pos : Pos} (hg : Gl X "range") (hm : X.mg "range" = none) (ha : PA X [a] ta) (hs : starEach [a] X.env = [(false, eval a X.env)] := by rfl) : PI X tg (.Call (.Name "range" p) [a] [] pos) (iRng1 ta) := by
  intro pins s σ H R I h
  refine Call_ (ld_blt I hg hm boot_range (PyProof.Rows.callWith_type1 (thn (ha pos pins s σ H _ I h) fun us s1 ⟨vs, H1, I1, r1, q1⟩ => ?_) hs rfl))
  obtain ⟨j, e, q1, q2, q⟩ := q1
  subst e
  cases r1 with
  | cons r rr =>
    cases rr
    obtain ⟨t, rfl⟩ := r
    exact call_range_1 (range_it I1 (by omega) (by omega) q1 q2 (by simpa using q))
/-! ### for -/
/-- W: the invariant by the turn and a measure; N: what the body is to reach -/
def tFor (wi : TI) (g : TG) (tb : TS) : TS := fun D σ H => wi σ H fun J H1 => ∃ W : Nat → Nat → St → Hp → Prop, (∃ m, W 0 m σ H1) ∧ ∀ i m σ H, W i m σ H →
  (J.stop i H ∧ D.nx σ H) ∨ (J.go i H ∧ ∃ N : St → Hp → Prop, (∀ σ' H', N σ' H' → ∃ m', m' < m ∧ W (i + 1) m' σ' H') ∧ ∀ x H', J.yld i H x H' → g x σ H' fun σ2 H2 => tb { D with nx := N, ct := N, bk := D.nx } σ2 H2)
/-- the records at fp as they stand -/
def pinsAt (fp : List Addr) (h : Heap) : List (Addr × Obj) := fp.filterMap fun b => (h.get? b).map fun o => (b, o)
theorem mem_pinsAt {fp : List Addr} {h : Heap} {b : Addr} {o : Obj} (hb : b ∈ fp) (e : h.get? b = some o) : (b, o) ∈ pinsAt fp h := List.mem_filterMap.mpr ⟨b, hb, by rw [e]; rfl⟩
theorem of_pinsAt {fp : List Addr} {h : Heap} {p : Addr × Obj} (hp : p ∈ pinsAt fp h) : p.1 ∈ fp ∧ h.get? p.1 = some p.2 := by
  obtain ⟨b, hb, e⟩ := List.mem_filterMap.mp hp
  cases q : h.get? b with
  | none => rw [q] at e; cases e
  | some o =>
    rw [q] at e
    have e' : (b, o) = p := Option.some.inj e
    subst e'
    exact ⟨hb, q⟩
theorem Inv.pinned {pins : List (Addr × Obj)} {σ : St} {H : Hp} {s : Shared} {fp : List Addr} (I : Inv X pins σ H s) (hf : ∀ b ∈ fp, FpOk X pins H b) (ho : ∀ b ∈ fp, ∃ o, s.heap.get? b = some o ∧ ∀ v, o.data ≠ .cell v) : Inv X (pins ++ pinsAt fp s.heap) σ H s :=
  I.pins_of fun p hp => (List.mem_append.mp hp).elim (fun z => I.pin p (List.mem_append_right _ z)) fun z => by
    obtain ⟨hb, e⟩ := of_pinsAt z
    obtain ⟨f0, f1, f2, _⟩ := hf p.1 hb
    obtain ⟨o, e', d⟩ := ho p.1 hb
    rw [e] at e'; cases e'
    exact ⟨e, f0, f1, f2, d⟩
theorem Inv.unpinned {pins pl : List (Addr × Obj)} {σ : St} {H : Hp} {s : Shared} (I : Inv X (pins ++ pl) σ H s) : Inv X pins σ H s := I.pins_of fun p hp => I.pin p (List.mem_append_right _ (List.mem_append_left _ hp))
theorem ps_for {iter : Expr} {body : List Stmt} {wi : TI} {g : TG} {tb : TS} {pos : Pos} (hp : PassesOwn (model X.prog X.w) X.A X.env X.xe) (hc : X.calm = true) (hi : PI X tg iter wi) (hg : PG X tg g) (hb : PSs X body tb)
    (hs : ∀ x, foldedSetIterable iter X.env x = pure x := by intro _; rfl) : PS X (.For tg iter body [] pos) (tFor wi g tb) := by
  intro pins s σ H D I h
  refine wpAny_For (thn (hi pins s σ H _ I h) fun v s1 h1 => thn h1 fun itv s2 h2 => ?_) hs
  obtain ⟨it, fp, tn, J, H2, e, I2, T, st2, f2, W, ⟨m0, w0⟩, turn⟩ := h2
  subst e
  -- what stays true of the iterator's objects through the loop
  have stat : ∀ {H' : Hp}, (∀ b ∈ fp, H' b = none) → ∀ b ∈ fp, FpOk X pins H' b := fun hn b hb => ⟨hn b hb, (f2 b hb).2⟩
  refine codeAny_forLoop_any (fun n s' => ∃ i σ' H', Inv X pins σ' H' s' ∧ tn i s'.heap ∧ (∀ b ∈ fp, H' b = none) ∧ W i n σ' H') ?_ m0 ⟨0, σ, H2, I2, st2, fun b hb => (f2 b hb).1, w0⟩
  rintro n s3 ⟨i, σ3, H3, I3, st3, fr3, w3⟩
  rcases turn i n σ3 H3 w3 with ⟨stop, qn⟩ | ⟨go, N, hN, step⟩
  · refine wpAny_passesOwn hp (thn (T.done X rfl rfl rfl hc i pins s3 σ3 H3 X.xe I3 (stat fr3) st3 stop) fun r s4 ⟨hr, I4⟩ => ?_)
    subst hr
    exact wpAny_execs_nil ⟨σ3, H3, I4, qn⟩
  · refine wpAny_passesOwn hp (thn (T.item X rfl rfl rfl hc i pins s3 σ3 H3 X.xe I3 (stat fr3) st3 go) fun r s4 ⟨u, hr, h4⟩ => ?_)
    subst hr
    refine wpAny_passesOwn hp (thn h4 fun _ s5 ⟨x, H5, I5, r5, y5, st5, fr5⟩ => ?_)
    have I5' := I5.pinned (stat fr5) (T.obj _ _ st5)
    refine wpAny_passesOwn hp (thn (hg _ s5 σ3 H5 x u _ I5' r5 (step x H5 y5)) fun _ s6 ⟨σ6, H6, I6, q6⟩ => ?_)
    refine wpAny_passesOwn hp (thn (hb _ s6 σ6 H6 _ I6 q6) fun f s7 q7 => ?_)
    have again : ∀ {σ7 : St} {H7 : Hp}, Inv X (pins ++ pinsAt fp s5.heap) σ7 H7 s7 → N σ7 H7 → ∃ m, m < n ∧ ∃ i σ' H', Inv X pins σ' H' s7 ∧ tn i s7.heap ∧ (∀ b ∈ fp, H' b = none) ∧ W i m σ' H' := fun {σ7 H7} I7 n7 => by
      obtain ⟨m', hm, w7⟩ := hN σ7 H7 n7
      refine ⟨m', hm, i + 1, σ7, H7, I7.unpinned, T.keep _ _ _ st5 fun b hb o e => (I7.pin (b, o) (List.mem_append_right _ (List.mem_append_right _ (mem_pinsAt hb e)))).1, fun b hb => ?_, w7⟩
      obtain ⟨o, e, d⟩ := T.obj _ _ st5 b hb
      exact (I7.pin (b, o) (List.mem_append_right _ (List.mem_append_right _ (mem_pinsAt hb e)))).2.1
    cases f with
    | next => obtain ⟨σ7, H7, I7, n7⟩ := q7; exact again I7 n7
    | cont => obtain ⟨σ7, H7, I7, n7⟩ := q7; exact again I7 n7
    | brk => obtain ⟨σ7, H7, I7, q7⟩ := q7; exact ⟨σ7, H7, I7.unpinned, q7⟩
    | ret v => obtain ⟨x7, σ7, H7, I7, r7, q7⟩ := q7; exact ⟨x7, σ7, H7, I7.unpinned, r7, q7⟩
end

/-! ### the forms one uses -/
/-- over a list that the body leaves as it is -/
theorem for_list {K : PySem.W.Frag} {a : Addr} {xs : List V} {g : TG} {tb : TS} {D : Ends} {σ : St} {H : Hp} (Pv : Nat → St → Hp → Prop) (h0 : Pv 0 σ H) (hl : ∀ i σ H, i ≤ xs.length → Pv i σ H → SqL K H a xs)
    (hs : ∀ i x σ H, xs[i]? = some x → Pv i σ H → g x σ H fun σ2 H2 => tb { D with nx := Pv (i + 1), ct := Pv (i + 1), bk := D.nx } σ2 H2) (hd : ∀ σ H, Pv xs.length σ H → D.nx σ H) :
    ∃ W : Nat → Nat → St → Hp → Prop, (∃ m, W 0 m σ H) ∧ ∀ i m σ H, W i m σ H →
      ((Itl K a).stop i H ∧ D.nx σ H) ∨ ((Itl K a).go i H ∧ ∃ N : St → Hp → Prop, (∀ σ' H', N σ' H' → ∃ m', m' < m ∧ W (i + 1) m' σ' H') ∧ ∀ x H', (Itl K a).yld i H x H' → g x σ H' fun σ2 H2 => tb { D with nx := N, ct := N, bk := D.nx } σ2 H2) := by
  refine ⟨fun i m σ H => m = xs.length - i ∧ i ≤ xs.length ∧ Pv i σ H, ⟨xs.length, by simp, Nat.zero_le _, h0⟩, ?_⟩
  rintro i m σ H ⟨rfl, hi, p⟩
  have q := hl i σ H hi p
  by_cases hlt : i < xs.length
  · refine .inr ⟨⟨xs, xs[i], q, by simp [hlt]⟩, Pv (i + 1), fun σ' H' p' => ⟨xs.length - (i + 1), by omega, rfl, hlt, p'⟩, fun x H' y => ?_⟩
    obtain ⟨e, y⟩ := y
    subst e
    exact hs i x σ _ (y xs q) p
  · have e : i = xs.length := by omega
    subst e
    exact .inl ⟨⟨xs, q, Nat.le_refl _⟩, hd σ H p⟩
theorem for_tup {K : PySem.W.Frag} {a : Addr} {xs : List V} {g : TG} {tb : TS} {D : Ends} {σ : St} {H : Hp} (Pv : Nat → St → Hp → Prop) (h0 : Pv 0 σ H) (hl : ∀ i σ H, i ≤ xs.length → Pv i σ H → SqT K H a xs)
    (hs : ∀ i x σ H, xs[i]? = some x → Pv i σ H → g x σ H fun σ2 H2 => tb { D with nx := Pv (i + 1), ct := Pv (i + 1), bk := D.nx } σ2 H2) (hd : ∀ σ H, Pv xs.length σ H → D.nx σ H) :
    ∃ W : Nat → Nat → St → Hp → Prop, (∃ m, W 0 m σ H) ∧ ∀ i m σ H, W i m σ H →
      ((Itt K a).stop i H ∧ D.nx σ H) ∨ ((Itt K a).go i H ∧ ∃ N : St → Hp → Prop, (∀ σ' H', N σ' H' → ∃ m', m' < m ∧ W (i + 1) m' σ' H') ∧ ∀ x H', (Itt K a).yld i H x H' → g x σ H' fun σ2 H2 => tb { D with nx := N, ct := N, bk := D.nx } σ2 H2) := by
  refine ⟨fun i m σ H => m = xs.length - i ∧ i ≤ xs.length ∧ Pv i σ H, ⟨xs.length, by simp, Nat.zero_le _, h0⟩, ?_⟩
  rintro i m σ H ⟨rfl, hi, p⟩
  have q := hl i σ H hi p
  by_cases hlt : i < xs.length
  · refine .inr ⟨⟨xs, xs[i], q, by simp [hlt]⟩, Pv (i + 1), fun σ' H' p' => ⟨xs.length - (i + 1), by omega, rfl, hlt, p'⟩, fun x H' y => ?_⟩
    obtain ⟨e, y⟩ := y
    subst e
    exact hs i x σ _ (y xs q) p
  · have e : i = xs.length := by omega
    subst e
    exact .inl ⟨⟨xs, q, Nat.le_refl _⟩, hd σ H p⟩
theorem for_range {lo : Int} {n : Nat} {g : TG} {tb : TS} {D : Ends} {σ : St} {H : Hp} (Pv : Nat → St → Hp → Prop) (h0 : Pv 0 σ H)
    (hs : ∀ i σ H, i < n → Pv i σ H → g (.int (lo + i)) σ H fun σ2 H2 => tb { D with nx := Pv (i + 1), ct := Pv (i + 1), bk := D.nx } σ2 H2) (hd : ∀ σ H, Pv n σ H → D.nx σ H) :
    ∃ W : Nat → Nat → St → Hp → Prop, (∃ m, W 0 m σ H) ∧ ∀ i m σ H, W i m σ H →
      ((Itr lo n).stop i H ∧ D.nx σ H) ∨ ((Itr lo n).go i H ∧ ∃ N : St → Hp → Prop, (∀ σ' H', N σ' H' → ∃ m', m' < m ∧ W (i + 1) m' σ' H') ∧ ∀ x H', (Itr lo n).yld i H x H' → g x σ H' fun σ2 H2 => tb { D with nx := N, ct := N, bk := D.nx } σ2 H2) := by
  refine ⟨fun i m σ H => m = n - i ∧ i ≤ n ∧ Pv i σ H, ⟨n, by simp, Nat.zero_le _, h0⟩, ?_⟩
  rintro i m σ H ⟨rfl, hi, p⟩
  by_cases hlt : i < n
  · refine .inr ⟨hlt, Pv (i + 1), fun σ' H' p' => ⟨n - (i + 1), by omega, rfl, hlt, p'⟩, fun x H' y => ?_⟩
    obtain ⟨e, y⟩ := y
    subst e y
    exact hs i σ _ hlt p
  · have e : i = n := by omega
    subst e
    exact .inl ⟨Nat.le_refl _, hd σ H p⟩
/-- while, by a word and a measure of the state -/
theorem while_by {c : TT} {tb : TS} {D : Ends} {σ : St} {H : Hp} (Pv : St → Hp → Prop) (μ : St → Hp → Nat) (h0 : Pv σ H)
    (hs : ∀ σ H, Pv σ H → c σ H fun b H1 => if b = true then tb { D with nx := fun σ' H' => Pv σ' H' ∧ μ σ' H' < μ σ H, ct := fun σ' H' => Pv σ' H' ∧ μ σ' H' < μ σ H, bk := D.nx } σ H1 else D.nx σ H1)
    (mono : ∀ σ H Q Q', (∀ b H1, Q b H1 → Q' b H1) → c σ H Q → c σ H Q') : tWhile c tb D σ H := by
  refine ⟨fun m σ H => m = μ σ H ∧ Pv σ H, ⟨_, rfl, h0⟩, ?_⟩
  rintro m σ H ⟨rfl, p⟩
  refine mono σ H _ _ (fun b H1 q => ?_) (hs σ H p)
  cases b with
  | true => exact ⟨_, fun σ' H' ⟨p', l⟩ => ⟨_, l, rfl, p'⟩, q⟩
  | false => exact q
end L2

namespace L2
open PySem PySem.Spec PyProof.Rows

abbrev R2 := V → V → Hp → VK → Prop
/-- a two-place operation on values: f is binaryOp op, inplaceOp op or compareOp op -/
def OpR (X : Cx) (f : Value → Value → Sem Value) (r : R2) : Prop :=
  ∀ (pins : List (Addr × Obj)) (s : Shared) (σ : St) (H : Hp) (x y : V) (v u : Value) (Q : VK), Inv X pins σ H s → RelV x v → RelV y u → r x y H Q →
    wpAny (model X.prog X.w) X.A (f v u) (EP X pins σ Q) X.xe s
/-- a call of a value that is known (a builtin, a type) with values -/
def CallR (X : Cx) (f : Value) (r : List V → Hp → VK → Prop) : Prop :=
  ∀ (pins : List (Addr × Obj)) (s : Shared) (σ : St) (H : Hp) (xs : List V) (us : List Value) (Q : VK), Inv X pins σ H s → Vals xs us → r xs H Q →
    wpAny (model X.prog X.w) X.A (call f us) (EP X pins σ Q) X.xe s
def tOp (r : R2) (ta tb : TE) : TE := fun σ H Q => ta σ H fun x H1 => tb σ H1 fun y H2 => r x y H2 Q
/-- ints in, under C, and a value out -/
def rI (C : Int → Int → Prop) (g : Int → Int → V) : R2 := fun x y H Q => ∃ i j, x = .int i ∧ y = .int j ∧ C i j ∧ Q (g i j) H
def rI0 (g : Int → Int → V) : R2 := fun x y H Q => ∃ i j, x = .int i ∧ y = .int j ∧ Q (g i j) H
section
variable {X : Cx} {a b c : Expr} {ta tb tc : TE} {pos : Pos}

theorem binT (ha : PE X a ta) (hb : PE X b tb) {pins : List (Addr × Obj)} {s : Shared} {σ : St} {H : Hp} {R : V → V → Hp → Prop} (I : Inv X pins σ H s)
    (h : ta σ H fun x H1 => tb σ H1 fun y H2 => R x y H2) {Q : Value → Shared → Prop} {f : Value → Value → Sem Value}
    (hf : ∀ v u s2 x y H2, Inv X pins σ H2 s2 → RelV x v → RelV y u → R x y H2 → wpAny (model X.prog X.w) X.A (f v u) Q X.xe s2) :
    wpAny (model X.prog X.w) X.A (eval a X.env) (fun v s₁ => wpAny (model X.prog X.w) X.A (eval b X.env) (fun u s₂ => wpAny (model X.prog X.w) X.A (f v u) Q X.xe s₂) X.xe s₁) X.xe s := by
  refine thn (ha pins s σ H _ I h) fun v s1 ⟨x, H1, I1, r1, q1⟩ => ?_
  refine thn (hb pins s1 σ H1 _ I1 q1) fun u s2 ⟨y, H2, I2, r2, q2⟩ => ?_
  exact hf v u s2 x y H2 I2 r1 r2 q2

theorem pe_op {op : Operator} {r : R2} (ho : OpR X (binaryOp op) r) (ha : PE X a ta) (hb : PE X b tb) : PE X (.BinOp a op b pos) (tOp r ta tb) := by
  intro pins s σ H Q I h
  exact wpAny_BinOp (binT ha hb I h fun v u s2 x y H2 I2 rx ry q => ho pins s2 σ H2 x y v u Q I2 rx ry q)
/-! ### ints -/
theorem opI {f : Value → Value → Sem Value} {C : Int → Int → Prop} {g : Int → Int → Int}
    (rule : ∀ (i j : Int) (t u : Tok) (s : Shared) (Q : Value → Shared → Prop) (E : Value → Shared → Prop), C i j → Q (.int (g i j) s.toks) { s with toks := s.toks + 1 } → wpAny (model X.prog X.w) X.A (f (.int i t) (.int j u)) Q E s) :
    OpR X f (rI C fun i j => .int (g i j)) := by
  intro pins s σ H x y v u Q I rx ry h
  obtain ⟨i, j, rfl, rfl, hc, q⟩ := h
  obtain ⟨t, rfl⟩ := rx
  obtain ⟨t', rfl⟩ := ry
  exact rule i j t t' s _ _ hc ⟨.int (g i j), H, I.tok _, ⟨_, rfl⟩, q⟩
theorem opI0 {f : Value → Value → Sem Value} {g : Int → Int → Int}
    (rule : ∀ (i j : Int) (t u : Tok) (s : Shared) (Q : Value → Shared → Prop) (E : Value → Shared → Prop), Q (.int (g i j) s.toks) { s with toks := s.toks + 1 } → wpAny (model X.prog X.w) X.A (f (.int i t) (.int j u)) Q E s) :
    OpR X f (rI0 fun i j => .int (g i j)) := by
  intro pins s σ H x y v u Q I rx ry h
  obtain ⟨i, j, rfl, rfl, q⟩ := h
  obtain ⟨t, rfl⟩ := rx
  obtain ⟨t', rfl⟩ := ry
  exact rule i j t t' s _ _ ⟨.int (g i j), H, I.tok _, ⟨_, rfl⟩, q⟩
theorem opB0 {f : Value → Value → Sem Value} {g : Int → Int → Bool}
    (rule : ∀ (i j : Int) (t u : Tok) (s : Shared) (Q : Value → Shared → Prop) (E : Value → Shared → Prop), Q (.bool (g i j)) s → wpAny (model X.prog X.w) X.A (f (.int i t) (.int j u)) Q E s) :
    OpR X f (rI0 fun i j => .bl (g i j)) := by
  intro pins s σ H x y v u Q I rx ry h
  obtain ⟨i, j, rfl, rfl, q⟩ := h
  obtain ⟨t, rfl⟩ := rx
  obtain ⟨t', rfl⟩ := ry
  exact rule i j t t' s _ _ ⟨.bl (g i j), H, I, rfl, q⟩

def CDiv (i j : Int) : Prop := 0 < j ∧ j < 1073741824
def CPow (i j : Int) : Prop := 0 ≤ j ∧ j ≤ 1000000 ∧ i.natAbs < 2 ^ 64
def CMul (i j : Int) : Prop := (-(2 ^ 64) < i ∧ i < 2 ^ 64) ∨ (-(2 ^ 64) < j ∧ j < 2 ^ 64)
theorem CMul.ok {i j : Int} (h : CMul i j) : IntMulOk i j := by
  rcases h with ⟨h1, h2⟩ | ⟨h1, h2⟩
  · exact .of_left (intBits_le_64 h1 h2)
  · exact .of_right (intBits_le_64 h1 h2)
theorem op_add : OpR X (binaryOp .Add) (rI0 fun i j => .int (i + j)) := opI0 fun _ _ _ _ _ _ _ q => add_int q
theorem op_sub : OpR X (binaryOp .Sub) (rI0 fun i j => .int (i - j)) := opI0 fun _ _ _ _ _ _ _ q => sub_int q
theorem op_mul : OpR X (binaryOp .Mult) (rI CMul fun i j => .int (i * j)) := opI fun _ _ _ _ _ _ _ hc q => mul_int q hc.ok
/-- // by a positive divisor -/
theorem op_fdiv : OpR X (binaryOp .FloorDiv) (rI CDiv fun i j => .int (i / j)) := opI fun i j _ _ _ _ _ hc q => by
  have h1 : (0 : Int) < j := hc.1
  have h2 : j < 1073741824 := hc.2
  exact floordiv_int (by omega) (by rw [Int.fdiv_eq_ediv_of_nonneg i (by omega)]; exact q) (.inl (PyProof.noPylong_small (by omega)))
/-- % by a positive divisor of any size -/
theorem op_mod : OpR X (binaryOp .Mod) (rI (fun _ j => 0 < j) fun i j => .int (i % j)) := opI fun i j _ _ _ _ _ hc q => by
  have h1 : (0 : Int) < j := hc
  exact mod_int' (by omega) (by rw [Int.fmod_eq_emod_of_nonneg i (by omega)]; exact q)
theorem op_pow : OpR X (binaryOp .Pow) (rI CPow fun i j => .int (i ^ j.toNat)) := opI fun _ _ _ _ _ _ _ hc q => pow_int_small hc.1 hc.2.1 hc.2.2 q
/-! ### bools among ints: n += (a < b) -/
end

/-! ### comparisons -/
/-- the scalars that == tells apart as data does -/
def scal : V → V → Bool
  | .non, .non => true | .non, .int _ => true | .int _, .non => true | .non, .bl _ => true | .bl _, .non => true | .non, .str _ => true | .str _, .non => true
  | .int _, .int _ => true | .bl _, .bl _ => true | .str _, .str _ => true | .byt _, .byt _ => true
  | .int _, .str _ => true | .str _, .int _ => true | .bl _, .str _ => true | .str _, .bl _ => true
  | _, _ => false
def rEq : R2 := fun x y H Q => scal x y = true ∧ Q (.bl (decide (x = y))) H
def rNe : R2 := fun x y H Q => scal x y = true ∧ Q (.bl (!decide (x = y))) H

theorem dec_int {i j : Int} : decide (V.int i = V.int j) = (i == j) := by
  rw [Bool.eq_iff_iff]
  simp
theorem dec_bl {i j : Bool} : decide (V.bl i = V.bl j) = (i == j) := by
  rw [Bool.eq_iff_iff]
  simp
theorem dec_str {i j : Str} : decide (V.str i = V.str j) = (i == j) := by
  rw [Bool.eq_iff_iff]
  simp
theorem dec_byt {i j : Array UInt8} : decide (V.byt i = V.byt j) = (i.toList == j.toList) := by
  rw [Bool.eq_iff_iff]
  cases i
  cases j
  simp

section
variable {X : Cx} {a b c : Expr} {ta tb tc : TE} {pos : Pos}
theorem fin_bl {pins : List (Addr × Obj)} {σ : St} {H : Hp} {s : Shared} {Q : VK} {k k' : Bool} (I : Inv X pins σ H s) (q : Q (.bl k) H) (e : k = k') : EP X pins σ Q (.bool k') s := by
  subst e
  exact ⟨.bl k, H, I, rfl, q⟩
theorem op_eq : OpR X (compareOp .Eq) rEq := by
  intro pins s σ H x y v u Q I rx ry h
  obtain ⟨hs, q⟩ := h
  cases x with
  | non =>
    cases rx
    cases y with
    | non => cases ry; exact PySem.EqNone.eq_none_none (fin_bl I q (by simp))
    | bl j => cases ry; exact PySem.EqNone.eq_none_bool (fin_bl I q (by simp))
    | int j => obtain ⟨t', rfl⟩ := ry; exact PySem.EqNone.eq_none_int (fin_bl I q (by simp))
    | str j => obtain ⟨t', rfl⟩ := ry; exact PySem.EqNone.eq_none_str (fin_bl I q (by simp))
    | _ => exact absurd (show false = true from hs) Bool.false_ne_true
  | bl i =>
    cases rx
    cases y with
    | non => cases ry; exact PySem.EqNone.eq_bool_none (fin_bl I q (by simp))
    | bl j => cases ry; exact eq_bool (fin_bl I q dec_bl)
    | str j => obtain ⟨t', rfl⟩ := ry; exact PySem.EqMixed.eq_bool_str (fin_bl I q (by simp))
    | _ => exact absurd (show false = true from hs) Bool.false_ne_true
  | int i =>
    obtain ⟨t, rfl⟩ := rx
    cases y with
    | non => cases ry; exact PySem.EqNone.eq_int_none (fin_bl I q (by simp))
    | int j => obtain ⟨t', rfl⟩ := ry; exact eq_int (fin_bl I q dec_int)
    | str j => obtain ⟨t', rfl⟩ := ry; exact PySem.EqMixed.eq_int_str (fin_bl I q (by simp))
    | _ => exact absurd (show false = true from hs) Bool.false_ne_true
  | str i =>
    obtain ⟨t, rfl⟩ := rx
    cases y with
    | non => cases ry; exact PySem.EqNone.eq_str_none (fin_bl I q (by simp))
    | bl j => cases ry; exact PySem.EqMixed.eq_str_bool (fin_bl I q (by simp))
    | int j => obtain ⟨t', rfl⟩ := ry; exact PySem.EqMixed.eq_str_int (fin_bl I q (by simp))
    | str j => obtain ⟨t', rfl⟩ := ry; exact eq_str (fin_bl I q dec_str)
    | _ => exact absurd (show false = true from hs) Bool.false_ne_true
  | byt i =>
    obtain ⟨t, rfl⟩ := rx
    cases y with
    | byt j => obtain ⟨t', rfl⟩ := ry; exact PySem.W.eq_bytes (fin_bl I q dec_byt)
    | _ => exact absurd (show false = true from hs) Bool.false_ne_true
  | _ => cases y <;> exact absurd (show false = true from hs) Bool.false_ne_true
theorem op_ne : OpR X (compareOp .NotEq) rNe := by
  intro pins s σ H x y v u Q I rx ry h
  obtain ⟨hs, q⟩ := h
  cases x with
  | non =>
    cases rx
    cases y with
    | non => cases ry; exact PySem.EqNone.ne_none_none (fin_bl I q (by simp))
    | bl j => cases ry; exact PySem.EqNone.ne_none_bool (fin_bl I q (by simp))
    | int j => obtain ⟨t', rfl⟩ := ry; exact PySem.EqNone.ne_none_int (fin_bl I q (by simp))
    | str j => obtain ⟨t', rfl⟩ := ry; exact PySem.EqNone.ne_none_str (fin_bl I q (by simp))
    | _ => exact absurd (show false = true from hs) Bool.false_ne_true
  | bl i =>
    cases rx
    cases y with
    | non => cases ry; exact PySem.EqNone.ne_bool_none (fin_bl I q (by simp))
    | bl j => cases ry; exact ne_bool (fin_bl I q (congrArg not dec_bl))
    | str j => obtain ⟨t', rfl⟩ := ry; exact PySem.EqMixed.ne_bool_str (fin_bl I q (by simp))
    | _ => exact absurd (show false = true from hs) Bool.false_ne_true
  | int i =>
    obtain ⟨t, rfl⟩ := rx
    cases y with
    | non => cases ry; exact PySem.EqNone.ne_int_none (fin_bl I q (by simp))
    | int j => obtain ⟨t', rfl⟩ := ry; exact ne_int (fin_bl I q (congrArg not dec_int))
    | str j => obtain ⟨t', rfl⟩ := ry; exact PySem.EqMixed.ne_int_str (fin_bl I q (by simp))
    | _ => exact absurd (show false = true from hs) Bool.false_ne_true
  | str i =>
    obtain ⟨t, rfl⟩ := rx
    cases y with
    | non => cases ry; exact PySem.EqNone.ne_str_none (fin_bl I q (by simp))
    | bl j => cases ry; exact PySem.EqMixed.ne_str_bool (fin_bl I q (by simp))
    | int j => obtain ⟨t', rfl⟩ := ry; exact PySem.EqMixed.ne_str_int (fin_bl I q (by simp))
    | str j => obtain ⟨t', rfl⟩ := ry; exact ne_str (fin_bl I q (congrArg not dec_str))
    | _ => exact absurd (show false = true from hs) Bool.false_ne_true
  | byt i =>
    obtain ⟨t, rfl⟩ := rx
    cases y with
    | byt j => obtain ⟨t', rfl⟩ := ry; exact PySem.W.ne_bytes (fin_bl I q (congrArg not dec_byt))
    | _ => exact absurd (show false = true from hs) Bool.false_ne_true
  | _ => cases y <;> exact absurd (show false = true from hs) Bool.false_ne_true

theorem op_lt : OpR X (compareOp .Lt) (rI0 fun i j => .bl (decide (i < j))) := opB0 fun _ _ _ _ _ _ _ q => lt_int q
theorem op_le : OpR X (compareOp .LtE) (rI0 fun i j => .bl (decide (i ≤ j))) := opB0 fun _ _ _ _ _ _ _ q => le_int q
theorem op_gt : OpR X (compareOp .Gt) (rI0 fun i j => .bl (decide (j < i))) := opB0 fun _ _ _ _ _ _ _ q => gt_int q
theorem op_ge : OpR X (compareOp .GtE) (rI0 fun i j => .bl (decide (j ≤ i))) := opB0 fun _ _ _ _ _ _ _ q => ge_int q
/-- is None, is not None: the right side a value none -/
theorem op_isN : OpR X (compareOp .Is) (fun x y H Q => y = .non ∧ Q (.bl (decide (x = .non))) H) := by
  intro pins s σ H x y v u Q I rx ry h
  obtain ⟨rfl, q⟩ := h
  cases ry
  refine is_none_gen (fin_bl I q ?_)
  cases x <;> first
    | (cases rx; rfl)
    | (obtain ⟨t, rfl⟩ := rx; rfl)
/-- two rules for one operation: by cases -/
theorem OpR.or {f : Value → Value → Sem Value} {r r' : R2} (h : OpR X f r) (h' : OpR X f r') : OpR X f (fun x y H Q => r x y H Q ∨ r' x y H Q) := by
  intro pins s σ H x y v u Q I rx ry q
  rcases q with q | q
  · exact h pins s σ H x y v u Q I rx ry q
  · exact h' pins s σ H x y v u Q I rx ry q

theorem nomark (b : Expr) {op : CmpOp} (h : op ≠ .In := by decide) (h2 : op ≠ .NotIn := by decide) : behindInMarks op b = false := by
  have e1 : (op == CmpOp.In) = false := by cases op <;> first | rfl | exact absurd rfl h
  have e2 : (op == CmpOp.NotIn) = false := by cases op <;> first | rfl | exact absurd rfl h2
  cases b <;> simp [behindInMarks, e1, e2]
/-- a comparison as a value; hm: nomark b, or (for in, not in) by with_unfolding_all rfl -/
theorem pe_cmpR {op : CmpOp} {r : R2} (ho : OpR X (compareOp op) r) (ha : PE X a ta) (hb : PE X b tb) (hm : behindInMarks op b = false) : PE X (.Compare a [op] [b] pos) (tOp r ta tb) := by
  intro pins s σ H Q I h
  exact wpAny_Compare1 (binT ha hb I h fun v u s2 x y H2 I2 rx ry q => ho pins s2 σ H2 x y v u Q I2 rx ry q) hm
/-- a reading of a value as a test -/
def tTest (t : TE) : TT := fun σ H Q => t σ H fun x H' => ∃ k, x = .bl k ∧ Q k H'
theorem pt_cmpR {op : CmpOp} {r : R2} (ho : OpR X (compareOp op) r) (ha : PE X a ta) (hb : PE X b tb) (hm : behindInMarks op b = false) : PT X (.Compare a [op] [b] pos) (tTest (tOp r ta tb)) := by
  intro pins s σ H Q I h
  refine wpAny_isTrue_Compare1 (thn (ha pins s σ H _ I h) fun v s1 ⟨x, H1, I1, r1, q1⟩ => thn (hb pins s1 σ H1 _ I1 q1) fun u s2 ⟨y, H2, I2, r2, q2⟩ =>
    thn (ho pins s2 σ H2 x y v u _ I2 r1 r2 q2) fun c s3 ⟨z, H3, I3, r3, k, e, q3⟩ => ?_) hm
  subst e
  cases r3
  exact wpAny_truthy_bool ⟨H3, I3, q3⟩
/-- a op1 b op2 c -/
def tChain (r r' : R2) (ta tb tc : TE) : TE := fun σ H Q => ta σ H fun x H1 => tb σ H1 fun y H2 => r x y H2 fun z H3 => ∃ k, z = .bl k ∧
  (if k = true then tc σ H3 fun w' H4 => r' y w' H4 Q else Q (.bl false) H3)
theorem pe_chain {op op' : CmpOp} {r r' : R2} (ho : OpR X (compareOp op) r) (ho' : OpR X (compareOp op') r') (ha : PE X a ta) (hb : PE X b tb) (hc : PE X c tc)
    (hm : lastMarks [op, op'] [b, c] = false := by with_unfolding_all rfl) : PE X (.Compare a [op, op'] [b, c] pos) (tChain r r' ta tb tc) := by
  intro pins s σ H Q I h
  refine Compare_chain (thn (ha pins s σ H _ I h) fun v s1 ⟨x, H1, I1, r1, q1⟩ => chain_link (thn (hb pins s1 σ H1 _ I1 q1) fun u s2 ⟨y, H2, I2, r2, q2⟩ =>
    thn (ho pins s2 σ H2 x y v u _ I2 r1 r2 q2) fun d s3 ⟨z, H3, I3, r3, k, e, q3⟩ => ?_)) hm
  subst e
  cases r3
  refine wpAny_truthy_bool ?_
  cases k with
  | false => exact ite_ff ⟨.bl false, H3, I3, rfl, q3⟩
  | true => exact ite_tt (chain_last (thn (hc pins s3 σ H3 _ I3 q3) fun w' s4 ⟨z', H4, I4, r4, q4⟩ => ho' pins s4 σ H4 y z' u w' Q I4 r2 r4 q4))
/-! ### truth -/
theorem line63 : (sizeLine : Nat) < 2 ^ 63 := by rw [sizeLine_eq]; decide
/-! ### strs and bytes -/
/-! ### scalar builtins, by CallR -/
theorem vals1 {x : V} {us : List Value} (r : Vals [x] us) : ∃ u, us = [u] ∧ RelV x u := by
  cases r with
  | cons r1 r2 => cases r2; exact ⟨_, rfl, r1⟩
theorem vals2 {x y : V} {us : List Value} (r : Vals [x, y] us) : ∃ u w', us = [u, w'] ∧ RelV x u ∧ RelV y w' := by
  cases r with
  | cons r1 r2 =>
    cases r2 with
    | cons r3 r4 => cases r4; exact ⟨_, _, rfl, r1, r3⟩
end
end L2

namespace L2
open PySem PySem.Spec PyProof.Rows

/-! ### an instance, its attributes a map -/
structure ObjM (h : Heap) (x dx C : Addr) (mA : Str → Option Value) : Prop where
  obj : h.get? x = some (PySem.W.instObj C dx)
  ns : h.Ns1 dx mA
  ne : dx ≠ x

theorem lookIn_ns {h : Heap} {dx : Addr} {mA : Str → Option Value} (n : h.Ns1 dx mA) : ∃ od, h.get? dx = some od ∧ ∀ name, PySem.W.lookIn name od = some (mA name) := by
  obtain ⟨o, es, ep, ho, hd, hk, _, hm⟩ := n
  refine ⟨o, ho, fun name => ?_⟩
  have e := hm name
  unfold nsFind findBy at e
  rw [← Array.find?_toList] at e
  unfold PySem.W.lookIn
  rw [hd]
  dsimp only
  split
  · rename_i y q
    rw [q] at e
    exact congrArg some e
  · rename_i q
    rw [q] at e
    have a : es.toList.any (·.refKey) = false := by
      rw [List.any_eq_false]
      intro y hy
      obtain ⟨z, t, hkey⟩ := hk y (Array.mem_toList_iff.mp hy)
      simp [DictEntry.refKey, hkey]
    have a' : ¬ es.toList.any (·.refKey) = true := by rw [a]; exact Bool.false_ne_true
    rw [if_neg a']
    exact congrArg some e

theorem ObjM.look {h : Heap} {x dx C : Addr} {mA : Str → Option Value} (I : ObjM h x dx C mA) : ∃ od, PySem.W.InstAt h x (PySem.W.instObj C dx) C (some od) ∧ ∀ name, PySem.W.lookIn name od = some (mA name) :=
  let ⟨od, ho, hl⟩ := lookIn_ns I.ns
  ⟨od, ⟨I.obj, rfl, rfl, ho⟩, hl⟩

section
variable {prog : Program} {w : World} {A : Around} {E : Value → Shared → Prop} {s : Shared} {K : PySem.W.Frag} {x dx C f : Addr} {mA : Str → Option Value} {name : Str} {v : Value}

theorem get_map {expr : Bool} {Q : Value → Shared → Prop} (X : K.In s.heap) (I : ObjM s.heap x dx C mA) (hg : PySem.W.plainGet K C name = true) (hh : PySem.W.hasDictIn K C = true)
    (ha : PySem.W.findIn K (.ref C) name = some none) (hv : mA name = some v) (hv' : PySem.W.handedIn v = true) (h : Q v { s with toks := s.toks + 1 }) :
    wpAny (model prog w) A (getAttr (.ref x) name expr) Q E s := by
  obtain ⟨od, J, hl⟩ := I.look
  exact PySem.W.get_value X J (PySem.W.plainGet_of hg).1 (PySem.W.findObj_own hh ha rfl (by rw [hl, hv])) hv' h

theorem get_meth {pl : Sem Bool} {Q : Value × List Value → Shared → Prop} (X : K.In s.heap) (I : ObjM s.heap x dx C mA) (hg : PySem.W.plainGet K C name = true)
    (hf : PySem.W.findIn K (.ref C) name = some (some (.ref f))) (ht : PySem.W.isFn K (.ref f) = true) (hv : mA name = none) (h : Q (.ref f, [.ref x]) s) :
    wpAny (model prog w) A (getMethod (.ref x) name pl) Q E s := by
  obtain ⟨od, J, hl⟩ := I.look
  exact PySem.W.method_fn X J (PySem.W.plainGet_of hg).1 (PySem.W.plainGet_of hg).2 hf (beq_iff_eq.mp ht) (by show (PySem.W.lookIn name od).map (·.isSome) = some false; rw [hl, hv]; rfl) h

theorem set_map {ns : List Str} {Q : Unit → Shared → Prop} (X : K.In s.heap) (I : ObjM s.heap x dx C mA)
    (hs : PySem.W.findIn K (.ref C) "__setattr__" = some (some (.builtin "object.__setattr__"))) (hp : PySem.W.plainOver K C = true) (ht : PySem.W.takerIn K C name = some none) (hh : PySem.W.hasDictIn K C = true)
    (hw : PySem.Within mA ns) (hsz : ns.length ≤ sizeLine)
    (h : ∀ h', ObjM h' x dx C (fun y => if y = name then some v else mA y) → Heap.SameBut dx s.heap h' → Q () { s with heap := h', toks := s.toks + 2 }) :
    wpAny (model prog w) A (setAttr (.ref x) name v) Q E s := by
  obtain ⟨od, J, hl⟩ := I.look
  refine PySem.W.set_plain X J hs (PySem.W.osa_open (s := { s with toks := s.toks + 1 }) (r := none) X J hp ht fun b => ?_)
  obtain ⟨cd, hc, hd'⟩ := PySem.W.any_some hh
  have hx : s.heap.get? x = some ⟨.ref C, some dx, .plain, #[]⟩ := I.obj
  refine wpAny_bind (wpAny_pure (wpAny_bind (wpAny_bind (wpAny_loadPart hx (wpAny_bind (PySem.W.Looks.here (s := { s with toks := s.toks + 1 }) (PySem.W.looks_clsIn X hc) ?_))))))
  rw [hd']
  refine wpAny_pure (a := some dx) (wpAny_bind (wpAny_pure (wpAny_bind ?_)))
  refine wpAny_nsSet1 (s := { s with toks := s.toks + 1 }) I.ns fun h' hn2 hs2 => ?_
  obtain ⟨oD, esD, epD, hoD, hdD, hcD⟩ := hn2.count (PySem.Within.cons name v hw)
  refine wpAny_bind (wpAny_lookBehind hoD (by rw [hdD]; exact pastItsLine_dict (Nat.le_trans hcD (by rw [List.length_cons]; omega))) ?_)
  exact wpAny_pure (h _ ⟨(hs2.2 _ (Ne.symm I.ne)).trans I.obj, hn2, I.ne⟩ hs2)

/-- C(..): the dict at the heap's end, the instance behind it; then its __init__ -/
theorem make_map {R : Result → Shared → Prop} {vs : List Value} {kw : List (Str × Value)} (X : K.In s.heap) (hm : PySem.W.makesIn K C = true)
    (hi : PySem.W.findIn K (.ref C) "__init__" = some (some (.ref f))) (hf : PySem.W.typeIn K (.ref f) = some (.type "function"))
    (h : codeAny (model prog w) (A.under (.builtin "type.__call__" ⟨.ref C :: vs, kw⟩)) (.call (.ref f) ⟨.ref (s.heap.objs.size + 1) :: vs, kw⟩) (PySem.W.InitBack (s.heap.objs.size + 1) R)
      { s with heap := (s.heap.push PySem.W.emptyDict).push (PySem.W.instObj C s.heap.objs.size) }) :
    codeAny (model prog w) A (.call (.ref C) ⟨vs, kw⟩) R s := by
  obtain ⟨hh, g, d, t, os⟩ := s
  exact PySem.W.make_core (PySem.W.makes_of X hm) (PySem.W.looks_findIn X hi) (fun self => PySem.W.bind_fn X self hf) (.inl rfl) h
end

/-! ### the attributes as a list of pairs -/
def putF (f : Str) (v : V) : List (Str × V) → List (Str × V)
  | [] => [(f, v)]
  | (g, x) :: r => if g = f then (g, v) :: r else (g, x) :: putF f v r
theorem lookup_putF (f g : Str) (v : V) : ∀ fs : List (Str × V), (putF f v fs).lookup g = if g = f then some v else fs.lookup g
  | [] => by
    show List.lookup g [(f, v)] = _
    by_cases h : g = f
    · have hb : (g == f) = true := beq_iff_eq.mpr h
      simp only [List.lookup, hb, if_pos h]
    · have hb : (g == f) = false := beq_eq_false_iff_ne.mpr h
      simp only [List.lookup, hb, if_neg h]
  | (k, x) :: r => by
    have ih := lookup_putF f g v r
    rw [show putF f v ((k, x) :: r) = (if k = f then (k, v) :: r else (k, x) :: putF f v r) from rfl]
    by_cases hk : k = f
    · rw [if_pos hk]
      by_cases h : g = k
      · have hb : (g == k) = true := beq_iff_eq.mpr h
        simp only [List.lookup, hb, if_pos (h.trans hk)]
      · have hb : (g == k) = false := beq_eq_false_iff_ne.mpr h
        simp only [List.lookup, hb, if_neg (fun e : g = f => h (e.trans hk.symm))]
    · rw [if_neg hk]
      by_cases h : g = k
      · have hb : (g == k) = true := beq_iff_eq.mpr h
        simp only [List.lookup, hb, if_neg (fun e : g = f => hk (h.symm.trans e))]
      · have hb : (g == k) = false := beq_eq_false_iff_ne.mpr h
        simp only [List.lookup, hb]
        exact ih
theorem keys_putF (f : Str) (v : V) : ∀ fs : List (Str × V), f ∈ (putF f v fs).map (·.1) ∧ ∀ g, g ∈ fs.map (·.1) → g ∈ (putF f v fs).map (·.1)
  | [] => ⟨by simp [putF], fun g h => by simp at h⟩
  | (k, x) :: r => by
    obtain ⟨i1, i2⟩ := keys_putF f v r
    rw [show putF f v ((k, x) :: r) = (if k = f then (k, v) :: r else (k, x) :: putF f v r) from rfl]
    by_cases hk : k = f
    · rw [if_pos hk]
      subst hk
      exact ⟨by simp, fun g h => by simpa using h⟩
    · rw [if_neg hk]
      refine ⟨?_, fun g h => ?_⟩
      · rw [List.map_cons]
        exact List.mem_cons_of_mem _ i1
      · rw [List.map_cons] at h ⊢
        rcases List.mem_cons.mp h with e | e
        · exact List.mem_cons.mpr (.inl e)
        · exact List.mem_cons_of_mem _ (i2 g e)
theorem length_putF (f : Str) (v : V) : ∀ fs : List (Str × V), (putF f v fs).length ≤ fs.length + 1
  | [] => by simp [putF]
  | (k, x) :: r => by
    have ih := length_putF f v r
    rw [show putF f v ((k, x) :: r) = (if k = f then (k, v) :: r else (k, x) :: putF f v r) from rfl]
    by_cases hk : k = f
    · rw [if_pos hk, List.length_cons, List.length_cons]; omega
    · rw [if_neg hk, List.length_cons, List.length_cons]; omega

theorem RelO.some_of {v : V} {o : Option Value} (r : RelO (some v) o) : ∃ u, o = some u ∧ RelV v u := by
  cases o with
  | none => exact (show False from r).elim
  | some u => exact ⟨u, rfl, r⟩
theorem RelO.none_of {o : Option Value} (r : RelO none o) : o = none := by
  cases o with
  | none => rfl
  | some u => exact (show False from r).elim
theorem handed_of {v : V} {u : Value} (r : RelV v u) : PySem.W.handedIn u = true := by
  cases v with
  | non => cases (show u = Value.none from r); rfl
  | bl b => cases (show u = Value.bool b from r); rfl
  | int i => obtain ⟨t, e⟩ := (show ∃ t, u = Value.int i t from r); cases e; rfl
  | str x => obtain ⟨t, e⟩ := (show ∃ t, u = Value.str x t from r); cases e; rfl
  | byt b => obtain ⟨t, e⟩ := (show ∃ t, u = Value.bytes b t from r); cases e; rfl
  | flt b => obtain ⟨t, e⟩ := (show ∃ t, u = Value.float b t from r); cases e; rfl
  | ref a => cases (show u = Value.ref a from r); rfl
  | ty n => cases (show u = Value.type n from r); rfl

section
variable {P : Program} {w : World} {H H' : Hp} {h h' : Heap} {a C dx : Addr} {fs fs' : List (Str × V)}
theorem ins_get (hok : HOk P w H h) (e : H a = some (.ins C dx fs)) : ∃ mA, ObjM h a dx C mA ∧ (∀ f, RelO (fs.lookup f) (mA f)) ∧ PySem.Within mA (fs.map (·.1)) ∧ fs.length ≤ 1000 ∧ H dx = some (.own a) := by
  obtain ⟨d, z, ne, ob, mA, n, r, q⟩ := (show ObjOk P w H h a (.ins C dx fs) from hok a _ e)
  exact ⟨mA, ⟨ob, n, ne⟩, r, q, z, d⟩
end

/-! ### what of the text a class must have -/
structure Cls (K : PySem.W.Frag) (C : Addr) : Prop where
  pg : PySem.W.plainGet K C Str.empty = true
  hd : PySem.W.hasDictIn K C = true
  po : PySem.W.plainOver K C = true
  sa : PySem.W.findIn K (.ref C) "__setattr__" = some (some (.builtin "object.__setattr__"))
theorem Cls.get {K : PySem.W.Frag} {C : Addr} (c : Cls K C) (f : Str) : PySem.W.plainGet K C f = true := c.pg
/-- no class of it has the name -/
def NoAttr (K : PySem.W.Frag) (C : Addr) (f : Str) : Prop := PySem.W.findIn K (.ref C) f = some none
theorem NoAttr.taker {K : PySem.W.Frag} {C : Addr} {f : Str} (n : NoAttr K C f) : PySem.W.takerIn K C f = some none := by
  unfold PySem.W.takerIn
  rw [show PySem.W.findIn K (.ref C) f = some none from n]
  rfl
/-- a constant of the class -/
structure Con (K : PySem.W.Frag) (C : Addr) (f : Str) (v : V) (u : Value) : Prop where
  at_ : PySem.W.findIn K (.ref C) f = some (some u)
  rel : RelV v u
  get : PySem.W.specialIn K u "__get__" = some none
  cp : PySem.W.copiedNames.contains f = false
/-- a method: a plain def of the class or of one above it -/
structure Meth (K : PySem.W.Frag) (C : Addr) (m : Str) (f : Addr) : Prop where
  at_ : PySem.W.findIn K (.ref C) m = some (some (.ref f))
  fn : PySem.W.isFn K (.ref f) = true
  kp : PySem.W.keepIn K (.ref f) = true

section
variable {X : Cx} {pins : List (Addr × Obj)} {σ : St} {H : Hp} {s : Shared} {a C dx : Addr} {fs : List (Str × V)} {f : Str} {v : V} {A : Around} {E : Value → Shared → Prop}

theorem getattr_ok {b : Bool} {Q : Value → Shared → Prop} (I : Inv X pins σ H s) (e : H a = some (.ins C dx fs)) (c : Cls X.K C) (n : NoAttr X.K C f) (l : fs.lookup f = some v)
    (h : ∀ u s', Inv X pins σ H s' → RelV v u → Q u s') : wpAny (model X.prog X.w) A (getAttr (.ref a) f b) Q E s := by
  obtain ⟨mA, O, r, _, _, _⟩ := ins_get I.hok e
  obtain ⟨u, hu, ru⟩ := RelO.some_of (v := v) (o := mA f) (by rw [← l]; exact r f)
  exact get_map I.kIn O (c.get f) c.hd n hu (handed_of ru) (h u _ (I.tok _) ru)

theorem getmeth_ok {m : Str} {g : Addr} {pl : Sem Bool} {Q : Value × List Value → Shared → Prop} (I : Inv X pins σ H s) (e : H a = some (.ins C dx fs)) (c : Cls X.K C) (k : Meth X.K C m g) (l : fs.lookup m = none)
    (h : Q (.ref g, [.ref a]) s) : wpAny (model X.prog X.w) A (getMethod (.ref a) m pl) Q E s := by
  obtain ⟨mA, O, r, _, _, _⟩ := ins_get I.hok e
  have hn : mA m = none := RelO.none_of (by rw [← l]; exact r m)
  exact get_meth I.kIn O (c.get m) k.at_ k.fn hn h

theorem setattr_ok {y : V} {u : Value} {Q : Unit → Shared → Prop} (I : Inv X pins σ H s) (e : H a = some (.ins C dx fs)) (c : Cls X.K C) (n : NoAttr X.K C f) (hl : fs.length < 1000) (ry : RelV y u)
    (h : ∀ s', Inv X pins σ (upd H a (.ins C dx (putF f y fs))) s' → Q () s') : wpAny (model X.prog X.w) A (setAttr (.ref a) f u) Q E s := by
  obtain ⟨mA, O, r, wi, _, ho⟩ := ins_get I.hok e
  have hz : (fs.map (·.1)).length ≤ sizeLine := by rw [List.length_map, sizeLine_eq]; omega
  refine set_map I.kIn O c.sa c.po n.taker c.hd wi hz fun h' O' sb => h _ ?_
  have hd : ∃ o, h'.get? dx = some o := let ⟨o, _, _, e', _⟩ := O'.ns; ⟨o, e'⟩
  refine I.write (x := a) (e := dx) (by rw [e]; exact True.intro) (.inr ho) (fun b q hb z => (sb.2 b hb).trans z) hd ?_
  refine ⟨by rw [upd_ne O.ne]; exact ho, ?_, O.ne, O'.obj, _, O'.ns, fun g => ?_, fun g hg => ?_⟩
  · have := length_putF f y fs; omega
  · show RelO ((putF f y fs).lookup g) (if g = f then some u else mA g)
    rw [lookup_putF]
    by_cases q : g = f
    · rw [if_pos q, if_pos q]; exact ry
    · rw [if_neg q, if_neg q]; exact r g
  · by_cases q : g = f
    · rw [q]; exact (keys_putF f y fs).1
    · refine (keys_putF f y fs).2 g (wi g fun z => hg ?_)
      show (if g = f then some u else mA g) = none
      rw [if_neg q]; exact z

/-- a new instance, tracked, without attributes -/
theorem Inv.made (I : Inv X pins σ H s) : Inv X pins σ (upd (upd H s.heap.objs.size (.own (s.heap.objs.size + 1))) (s.heap.objs.size + 1) (.ins C s.heap.objs.size []))
    { s with heap := (s.heap.push PySem.W.emptyDict).push (PySem.W.instObj C s.heap.objs.size) } := by
  have e1 : (s.heap.push PySem.W.emptyDict).get? s.heap.objs.size = some PySem.W.emptyDict := Heap.get?_push_size s.heap rfl
  have e2 : ((s.heap.push PySem.W.emptyDict).push (PySem.W.instObj C s.heap.objs.size)).get? (s.heap.objs.size + 1) = some (PySem.W.instObj C s.heap.objs.size) := by
    have := Heap.get?_push_size (s.heap.push PySem.W.emptyDict) (o := PySem.W.instObj C s.heap.objs.size) rfl
    rwa [Heap.size_push] at this
  have e3 : (s.heap.push PySem.W.emptyDict).Ns s.heap.objs.size (fun _ => none) := ⟨PySem.W.emptyDict, #[], _, e1, rfl, (fun e he => absurd he (by simp)), fun _ => rfl⟩
  have I1 := I.laid (a := s.heap.objs.size) (o := .own (s.heap.objs.size + 1)) (h' := s.heap.push PySem.W.emptyDict) (t' := s.toks) (fun b u q => Heap.get?_push_of_some _ q) (Nat.le_refl _) ⟨_, e1⟩
  refine I1.laid (a := s.heap.objs.size + 1) (o := .ins C s.heap.objs.size []) (t' := s.toks) (fun b u q => Heap.get?_push_of_some _ q) (Nat.le_of_eq (Heap.size_push _ _)) ?_
  have ne : s.heap.objs.size ≠ s.heap.objs.size + 1 := Nat.ne_of_lt (Nat.lt_succ_self _)
  refine ⟨by rw [upd_ne ne, upd_same], Nat.zero_le _, ne, e2, fun _ => none, (Heap.Ns1.of_empty e3).at fun o q => Heap.get?_push_of_some _ q, fun _ => True.intro, fun y hy => absurd rfl hy⟩

/-- e.f where nothing but the object is asked: through attributeBase (super) and the last hold -/
theorem attr_of {prog : Program} {w : World} {env : Env} {e : Expr} {f : Str} {pos : Pos} {s : Shared} {Q : Value → Shared → Prop} (hb : attributeBase e f env (eval e env) = eval e env)
    (h : wpAny (model prog w) A (eval e env) (fun o s₁ => wpAny (model prog w) A (getAttr o f true) Q E s₁) E s) : wpAny (model prog w) A (eval (.Attribute e f pos) env) Q E s :=
  Attribute_any_ h (by rw [arm_eval_Attribute, hb])
end

/-! ### readings and rules -/
/-- e.f, an attribute of the instance -/
def tFld (K : PySem.W.Frag) (ta : TE) (f : Str) : TE := fun σ H Q => ta σ H fun x H1 => ∃ a C dx fs v, x = .ref a ∧ H1 a = some (.ins C dx fs) ∧ Cls K C ∧ NoAttr K C f ∧ fs.lookup f = some v ∧ Q v H1
/-- e.f = value -/
def sFld (K : PySem.W.Frag) (ta tv : TE) (f : Str) : TS := fun D σ H => tv σ H fun y H1 => ta σ H1 fun x H2 => ∃ a C dx fs, x = .ref a ∧ H2 a = some (.ins C dx fs) ∧ Cls K C ∧ NoAttr K C f ∧ fs.length < 1000 ∧
  D.nx σ (upd H2 a (.ins C dx (putF f y fs)))
section
variable {X : Cx} {o e value : Expr} {f : Str} {pos pos' tpos : Pos} {ta tv : TE}
theorem pe_fld (he : PE X e ta) (hb : attributeBase e f X.env (eval e X.env) = eval e X.env) : PE X (.Attribute e f pos) (tFld X.K ta f) := by
  intro pins s σ H Q I h
  refine attr_of hb (thn (he pins s σ H _ I h) fun u s1 ⟨x, H1, I1, rx, a, C, dx, fs, v, ex, ea, c, n, l, q⟩ => ?_)
  subst ex
  obtain rfl : u = Value.ref a := rx
  exact getattr_ok I1 ea c n l fun u' s2 I2 ru => ⟨v, H1, I2, ru, q⟩
theorem ps_fld (ha : PE X o ta) (hv : PE X value tv) (hs : swapsWith value (some (.Attribute o f pos')) pos.line X.env = pure false) : PS X (.Assign [.Attribute o f pos'] value pos) (sFld X.K ta tv f) := by
  intro pins s σ H D I h
  refine plainObj_wpAny_Assign_Attribute (thn (hv pins s σ H _ I h) fun u s1 ⟨y, H1, I1, ry, q⟩ => thn (ha pins s1 σ H1 _ I1 q) fun ov s2 ⟨x, H2, I2, rx, a, C, dx, fs, ex, ea, c, n, l, q2⟩ => ?_) hs
  subst ex
  obtain rfl : ov = Value.ref a := rx
  exact setattr_ok I2 ea c n l ry fun s3 I3 => ⟨σ, _, I3, q2⟩
end

/-! ### isinstance -/
section
variable {X : Cx} {pins : List (Addr × Obj)} {σ : St} {H : Hp} {s : Shared} {A : Around} {E : Value → Shared → Prop} {Q : Value → Shared → Prop} {c : Value} {b : Bool}
/-- the type of a value, as the fragment's deciders take it; for an instance its class -/
inductive TyOf (K : PySem.W.Frag) (H : Hp) : V → Value → Prop where
  | non : TyOf K H .non (.type "NoneType")
  | bl (x : Bool) : TyOf K H (.bl x) (.type "bool")
  | int (i : Int) : TyOf K H (.int i) (.type "int")
  | str (x : Str) : TyOf K H (.str x) (.type "str")
  | flt (x : UInt64) : TyOf K H (.flt x) (.type "float")
  | lst {a : Addr} {xs : List V} (e : H a = some (.lst xs)) : TyOf K H (.ref a) (.type "list")
  | frz {a : Addr} {o : Obj} {xs : List V} (e : H a = some (.frz o (.lst xs))) : TyOf K H (.ref a) (.type "list")
  | tup {a : Addr} {xs : List V} (e : H a = some (.tup xs)) : TyOf K H (.ref a) (.type "tuple")
  | dK {a : Addr} {kvs : List (Key × V)} (e : H a = some (.dK kvs)) : TyOf K H (.ref a) (.type "dict")
  | dT {a : Addr} {kvs : List (List Key × V)} (e : H a = some (.dT kvs)) : TyOf K H (.ref a) (.type "dict")
  | ins {a C dx : Addr} {fs : List (Str × V)} (e : H a = some (.ins C dx fs)) (cl : Cls K C) (ha : PySem.W.findIn K (.ref C) "__class__" = some (some (.builtin "object.__class__")))
      (hn : PySem.W.specialIn K (.builtin "object.__class__") "__get__" = some (some (.builtin "getset_descriptor.__get__"))) (htk : PySem.W.takesIn K (.builtin "object.__class__") = some true)
      (hm : PySem.W.mroIn K C (.type "object") = some true) : TyOf K H (.ref a) (.ref C)
/-- isinstance(x, c) for one class c, a built-in or an own one: kitOne's answer -/
theorem isinst_ok {x : V} {u t : Value} (I : Inv X pins σ H s) (rx : RelV x u) (ty : TyOf X.K H x t) (e : PySem.W.kitOne X.K t c = some b) (h : ∀ tk, Q (.bool b) { s with toks := tk }) :
    wpAny (model X.prog X.w) A (call (.builtin "isinstance") [u, c]) Q E s := by
  cases ty with
  | non => cases (show u = Value.none from rx); exact PySem.W.kia_one PySem.W.kitx_none I.kIn True.intro e (fun z => nomatch z) h
  | bl y => cases (show u = Value.bool y from rx); exact PySem.W.kia_one PySem.W.kitx_bool I.kIn True.intro e (fun z => nomatch z) h
  | int i => obtain ⟨t, q⟩ := (show ∃ t, u = Value.int i t from rx); cases q; exact PySem.W.kia_one PySem.W.kitx_int I.kIn True.intro e (fun z => nomatch z) h
  | str y => obtain ⟨t, q⟩ := (show ∃ t, u = Value.str y t from rx); cases q; exact PySem.W.kia_one PySem.W.kitx_str I.kIn True.intro e (fun z => nomatch z) h
  | flt y => obtain ⟨t, q⟩ := (show ∃ t, u = Value.float y t from rx); cases q; exact PySem.W.kia_one PySem.W.kitx_float I.kIn True.intro e (fun z => nomatch z) h
  | @lst a xs ea =>
    cases (show u = Value.ref a from rx)
    obtain ⟨_, _, n, _, h1⟩ := (show ObjOk X.prog X.w H s.heap a (.lst xs) from I.hok a _ ea)
    exact PySem.W.kia_one PySem.W.kitx_list I.kIn ⟨_, h1, rfl⟩ e (fun z => nomatch z) h
  | @frz a ob xs ea =>
    cases (show u = Value.ref a from rx)
    obtain ⟨_, _, _, n, _, h1⟩ := (show ObjOk X.prog X.w H s.heap a (.frz ob (.lst xs)) from I.hok a _ ea)
    exact PySem.W.kia_one PySem.W.kitx_list I.kIn ⟨_, h1, rfl⟩ e (fun z => nomatch z) h
  | @tup a xs ea =>
    cases (show u = Value.ref a from rx)
    obtain ⟨_, _, _, p⟩ := (show ObjOk X.prog X.w H s.heap a (.tup xs) from I.hok a _ ea)
    obtain ⟨o, h1, h2, _⟩ := p
    exact PySem.W.kia_one PySem.W.kitx_tuple I.kIn ⟨o, h1, h2⟩ e (fun z => nomatch z) h
  | @dK a kvs ea =>
    cases (show u = Value.ref a from rx)
    obtain ⟨_, _, vs, _, p⟩ := (show ObjOk X.prog X.w H s.heap a (.dK kvs) from I.hok a _ ea)
    obtain ⟨o, es, ep, h1, h2, _⟩ := p
    exact PySem.W.kia_one PySem.W.kitx_dict I.kIn ⟨o, h1, h2.1⟩ e (fun z => nomatch z) h
  | @dT a kvs ea =>
    cases (show u = Value.ref a from rx)
    obtain ⟨_, _, xs, _, o, es, ep, h1, h2, _⟩ := (show ObjOk X.prog X.w H s.heap a (.dT kvs) from I.hok a _ ea)
    exact PySem.W.kia_one PySem.W.kitx_dict I.kIn ⟨o, h1, h2.1⟩ e (fun z => nomatch z) h
  | @ins a C dx fs ea cl ha hn htk hm =>
    cases (show u = Value.ref a from rx)
    obtain ⟨mA, O, _⟩ := ins_get I.hok ea
    obtain ⟨od, J, _⟩ := O.look
    exact PySem.W.kia_one (PySem.W.kitx_own (cl.get _) cl.hd ha hn htk hm) I.kIn J e (fun z => nomatch z) h
end
end L2

namespace L2
open PySem PySem.Spec PyProof.Rows

/-! ### room -/
structure Room (k : Nat) (A : Around) : Prop where
  hd : A.handled = none
  dp : A.depth + 3 * k + 5 < recursionLimit
  un : A.units + 16 * k + 200 < cLine
theorem Room.mono {j k : Nat} {A : Around} (r : Room k A) (h : j ≤ k) : Room j A := ⟨r.hd, by have := r.dp; omega, by have := r.un; omega⟩
theorem Room.deeper {k : Nat} {A : Around} (r : Room (k + 1) A) (env : Env) : Room k (A.deeper env) :=
  ⟨r.hd, by have := r.dp; show A.depth + 1 + 3 * k + 5 < _; omega, by have := r.un; show A.units + 3 + 16 * k + 200 < _; omega⟩
theorem Room.in1 {k : Nat} {A : Around} (r : Room (k + 1) A) : Room k A.in1 :=
  ⟨r.hd, by have := r.dp; show A.depth + 3 * k + 5 < _; omega, by have := r.un; show A.units + 1 + 16 * k + 200 < _; omega⟩
theorem make_depth {A : Around} {C : Addr} {us : List Value} {kw : List (Str × Value)} : (A.under (.builtin "type.__call__" ⟨.ref C :: us, kw⟩)).depth = A.depth + 1 := by
  first | rfl | simp [Around.under, Code.weight, Code.isCreation, Code.isGuard, Code.isCaller, Code.frames, Code.isFrame, guardIds]
theorem make_units {A : Around} {C : Addr} {us : List Value} {kw : List (Str × Value)} : (A.under (.builtin "type.__call__" ⟨.ref C :: us, kw⟩)).units = A.units + 1 := by
  first | rfl | simp [Around.under, Code.cUnits, Code.frames, Code.isFrame]
theorem Room.make {k : Nat} {A : Around} (r : Room (k + 1) A) (C : Addr) (us : List Value) (kw : List (Str × Value)) : Room k (A.under (.builtin "type.__call__" ⟨.ref C :: us, kw⟩)) :=
  ⟨r.hd, by have := r.dp; rw [make_depth]; omega, by have := r.un; rw [make_units]; omega⟩
theorem Room.depth {k : Nat} {A : Around} (r : Room k A) : A.depth < recursionLimit := by have := r.dp; omega
theorem Room.units {k : Nat} {A : Around} (r : Room k A) : A.units + 64 < cLine := by have := r.un; omega
/-! ### argument lists and displays -/
def tNil : TA := fun _ H Q => Q [] H
def tCons (ta : TE) (tr : TA) : TA := fun σ H Q => ta σ H fun x H1 => tr σ H1 fun xs H2 => Q (x :: xs) H2
section
variable {X : Cx} {e : Expr} {es : List Expr} {te : TE} {t : TA} {pos : Pos}
theorem pa_nil : PA X [] tNil := fun _ _ _ _ H Q I h => Calls.spliced_nil ⟨[], H, I, .nil, h⟩
theorem pa_cons (ha : PE X e te) (hr : PA X es t) (hs : starEach (e :: es) X.env = (false, eval e X.env) :: starEach es X.env := by rfl) : PA X (e :: es) (tCons te t) := by
  intro pos pins s σ H Q I h
  rw [hs]
  show wpAny _ _ (spliced ((false, eval e X.env) :: backTo pos (starEach es X.env))) _ _ s
  refine Calls.spliced_cons (thn (ha pins s σ H _ I h) fun u s1 ⟨x, H1, I1, r1, q1⟩ => ?_)
  exact thn (hr pos pins s1 σ H1 _ I1 q1) fun us s2 ⟨xs, H2, I2, r2, q2⟩ => ⟨x :: xs, H2, I2, .cons r1 r2, q2⟩

/-- a tuple, a list of written items -/
def tTup (t : TA) : TE := fun σ H Q => t σ H fun xs H1 => xs.length ≤ sizeLine ∧ ∀ p, H1 p = none → Q (.ref p) (upd H1 p (.tup xs))
def tLst (t : TA) : TE := fun σ H Q => t σ H fun xs H1 => xs.length ≤ sizeLine ∧ ∀ p, H1 p = none → Q (.ref p) (upd H1 p (.lst xs))
theorem pe_tup {x1} (h : PA X es t) : PE X (.Tuple es x1 pos) (tTup t) := by
  intro pins s σ H Q I hq
  refine wpAny_Tuple_spliced (thn (h pos pins s σ H _ I hq) fun us s1 ⟨xs, H1, I1, r, z, q⟩ => ⟨by rw [← r.length]; exact z, ?_⟩)
  have hf : H1 s1.heap.objs.size = none := I1.hok.fresh (Nat.le_refl _)
  refine ⟨.ref s1.heap.objs.size, upd H1 s1.heap.objs.size (.tup xs), I1.laid (t' := s1.toks) (fun b u e => Heap.get?_push_of_some _ e) (Nat.le_refl _) ?_, rfl, q _ hf⟩
  exact ⟨z, us, r, ⟨_, Heap.get?_push_size _ rfl, rfl, _, rfl⟩⟩
theorem pe_lst (h : PA X es t) : PE X (.List es pos) (tLst t) := by
  intro pins s σ H Q I hq
  refine wpAny_List_spliced (thn (h pos pins s σ H _ I hq) fun us s1 ⟨xs, H1, I1, r, z, q⟩ => ⟨by rw [← r.length]; exact z, ?_⟩)
  have hf : H1 s1.heap.objs.size = none := I1.hok.fresh (Nat.le_refl _)
  refine ⟨.ref s1.heap.objs.size, upd H1 s1.heap.objs.size (.lst xs), I1.laid (t' := s1.toks) (fun b u e => Heap.get?_push_of_some _ e) (Nat.le_refl _) ?_, rfl, q _ hf⟩
  exact ⟨z, us, 0, r, Heap.get?_push_size _ rfl⟩
end

/-! ### what a def promises -/
/-- a def's promise: the bound arguments in the parameters' order, the heap, the wanted end, the wanted exception -/
abbrev Sp := List V → Hp → VK → XK → Prop
/-- how an exception lies behind a call (file 08 gives it): the callers' frames, abstract heap and state ahead of the call, the wish, the exception, the state -/
abbrev CXT := List Env → Hp → Shared → XK → Value → Shared → Prop

/-- the state at a call -/
structure Env0 (P : Program) (w : World) (K : PySem.W.Frag) (mg : Str → Option Value) (base : Heap) (A : Around) (outer : List Env) (s : Shared) (H : Hp) : Prop where
  frames : A.frames = some outer
  mod : Mod K mg base
  bs : ∀ b o, base.get? b = some o → s.heap.get? b = some o ∧ H b = none
  bsz : base.objs.size ≤ s.heap.objs.size
  funs : s.heap.FunFrames base outer
  frf : ∀ b ∈ frs outer, H b = none
  hok : HOk P w H s.heap
  bare : AllBare s.gens
/-- a call's end -/
def CE (outer : List Env) (P : Program) (w : World) (H : Hp) (s : Shared) (Q : VK) (u : Value) (s' : Shared) : Prop :=
  ∃ v H', s'.os = s.os ∧ AllBare s'.gens ∧ Un (frs outer) [] H H' s.heap s'.heap ∧ HOk P w H' s'.heap ∧ RelV v u ∧ Q v H'
def CR (CX : CXT) (outer : List Env) (P : Program) (w : World) (H : Hp) (s : Shared) (Q : VK) (E : XK) (r : Result) (s' : Shared) : Prop :=
  match r with
  | .ok (.ret u) => CE outer P w H s Q u s'
  | .ok _ => False
  | .error e => CX outer H s E e s'
structure FnOk (P : Program) (w : World) (K : PySem.W.Frag) (mg : Str → Option Value) (base : Heap) (CX : CXT) (k : Nat) (f : Addr) (fd : FuncData) (ps : List Str) (sp : Sp) : Prop where
  len : ∀ vs H Q E, sp vs H Q E → vs.length = ps.length
  run : ∀ (A : Around) (outer : List Env) (s : Shared) (H : Hp) (args : Args) (us : List Value) (vs : List V) (Q : VK) (E : XK), Room k A → Env0 P w K mg base A outer s H → BindsTo s fd args (ps.zip us) → Vals vs us → sp vs H Q E →
    codeAny (model P w) A (.call (.ref f) args) (CR CX outer P w H s Q E) s
theorem FnOk.mono {P : Program} {w : World} {K : PySem.W.Frag} {mg : Str → Option Value} {base : Heap} {CX : CXT} {j k : Nat} {f : Addr} {fd : FuncData} {ps : List Str} {sp : Sp} (F : FnOk P w K mg base CX j f fd ps sp) (h : j ≤ k) :
    FnOk P w K mg base CX k f fd ps sp := ⟨F.len, fun A outer s H args us vs Q E hr => F.run A outer s H args us vs Q E (hr.mono h)⟩
theorem Env0.make {P : Program} {w : World} {K : PySem.W.Frag} {mg : Str → Option Value} {base : Heap} {A : Around} {outer : List Env} {s : Shared} {H : Hp} (e : Env0 P w K mg base A outer s H) (C : Addr) (us : List Value) (kw : List (Str × Value)) :
    Env0 P w K mg base (A.under (.builtin "type.__call__" ⟨.ref C :: us, kw⟩)) outer s H := ⟨by first | exact e.frames | (simpa [Around.under, Code.envs, Code.isFrame, pushEnvs] using e.frames), e.mod, e.bs, e.bsz, e.funs, e.frf, e.hok, e.bare⟩
theorem Env0.in1 {P : Program} {w : World} {K : PySem.W.Frag} {mg : Str → Option Value} {base : Heap} {A : Around} {outer : List Env} {s : Shared} {H : Hp} (e : Env0 P w K mg base A outer s H) :
    Env0 P w K mg base A.in1 outer s H := ⟨e.frames, e.mod, e.bs, e.bsz, e.funs, e.frf, e.hok, e.bare⟩

section
variable {X : Cx} {pins : List (Addr × Obj)} {σ : St} {H : Hp} {s s' : Shared}
/-- from a body: what a callee wants -/
theorem Inv.env0 (I : Inv X pins σ H s) : Env0 X.prog X.w X.K X.mg X.base X.A X.stack s H :=
  ⟨I.ok.frames, I.ok.mod, I.bs, Nat.le_trans I.ok.bsz I.sz, I.stack, I.stkFree, I.hok, I.bare⟩
/-- behind a call -/
theorem Inv.after {Q : VK} {u : Value} (I : Inv X pins σ H s) (h : CE X.stack X.prog X.w H s Q u s') : EP X pins σ Q u s' := by
  obtain ⟨v, H', os, bare, un, hok, r, q⟩ := h
  obtain ⟨hh, g, d, t, os'⟩ := s'
  obtain rfl : os' = s.os := os
  exact ⟨v, H', I.call (h' := hh) (g' := g) (d' := d) (t' := t) (ch := []) un hok bare (fun b z => absurd z (by simp)), r, q⟩
end

/-! ### calls -/
/-- f(..): the written arguments, then the defaults dvs; E: what is wanted of an exception -/
def tCall (sp : Sp) (dvs : List V) (E : XK) (t : TA) : TE := fun σ H Q => t σ H fun vs H1 => sp (vs ++ dvs) H1 Q E
/-- o.m(..) of an instance of the class at C -/
def tMeth (C : Addr) (m : Str) (sp : Sp) (dvs : List V) (E : XK) (ta : TE) (t : TA) : TE := fun σ H Q => ta σ H fun x H1 => ∃ a dx fs, x = .ref a ∧ H1 a = some (.ins C dx fs) ∧ fs.lookup m = none ∧
  t σ H1 fun vs H2 => sp (x :: (vs ++ dvs)) H2 Q E
/-- how the parameters are bound: us the positional arguments, kw the keywords' values by name, ds the defaults that fill up -/
def Binds (K : PySem.W.Frag) (fd : FuncData) (ps : List Str) (ds : List Value) : Prop :=
  ∀ (s : Shared) (us : List Value), K.In s.heap → (us ++ ds).length = ps.length → BindsTo s fd ⟨us, []⟩ (ps.zip (us ++ ds))
/-- every parameter is given -/
theorem Binds.all {K : PySem.W.Frag} {fd : FuncData} {ps : List Str} (h : ∀ us : List Value, us.length = ps.length → bindArgs fd ⟨us, []⟩ = pure (ps.zip us)) : Binds K fd ps [] := fun s us _ hl => by
  rw [List.append_nil] at hl ⊢
  exact .of_eq (h us hl)

/-- an exception of a callee reaches what this body wants of exceptions -/
def Passes (CX : CXT) (X : Cx) (E : XK) : Prop := ∀ (pins : List (Addr × Obj)) (σ : St) (H : Hp) (s : Shared) (e : Value) (s' : Shared), Inv X pins σ H s → CX X.stack H s E e s' → X.xe e s'

section
variable {X : Cx} {CX : CXT} {k : Nat} {f C : Addr} {fd : FuncData} {ps : List Str} {sp : Sp} {dvs : List V} {ds : List Value} {E : XK} {x m : Str} {p pos apos : Pos} {e o : Expr} {es : List Expr} {ta : TE} {t : TA}

/-- the callee runs -/
theorem run_fn {pins : List (Addr × Obj)} {σ : St} {H : Hp} {s : Shared} {Q : VK} {us : List Value} {vs : List V} (F : FnOk X.prog X.w X.K X.mg X.base CX k f fd ps sp) (hr : Room k X.A) (hb : Binds X.K fd ps ds) (hd : Vals dvs ds) (hx : Passes CX X E)
    (I : Inv X pins σ H s) (r : Vals vs us) (h : sp (vs ++ dvs) H Q E) : wpAny (model X.prog X.w) X.A (call (.ref f) us) (EP X pins σ Q) X.xe s := by
  have r2 : Vals (vs ++ dvs) (us ++ ds) := r.append hd
  have hl : (us ++ ds).length = ps.length := by rw [← r2.length]; exact F.len _ _ _ _ h
  refine wpAny_call (codeAny_mono (F.run X.A X.stack s H ⟨us, []⟩ (us ++ ds) (vs ++ dvs) Q E hr I.env0 (hb s us I.kIn hl) r2 h) fun r s' hq => ?_)
  cases r with
  | error e => exact hx pins σ H s e s' I hq
  | ok fl =>
    cases fl with
    | ret u => exact I.after hq
    | next => exact False.elim hq
    | brk => exact False.elim hq
    | cont => exact False.elim hq

theorem pe_call (F : FnOk X.prog X.w X.K X.mg X.base CX k f fd ps sp) (hr : Room k X.A) (hg : Gl X x) (hm : X.mg x = some (.ref f)) (hk : PySem.W.keepIn X.K (.ref f) = true) (hb : Binds X.K fd ps ds) (hd : Vals dvs ds) (hx : Passes CX X E)
    (ha : PA X (e :: es) t) (hdb : (x == ("__debug__" : Str)) = false := by decide) (he : starEach (e :: es) X.env = (false, eval e X.env) :: starEach es X.env := by rfl) (hpl : (backTo pos (starEach es X.env)).any (·.1) = false := by rfl) :
    PE X (.Call (.Name x p) (e :: es) [] pos) (tCall sp dvs E t) := by
  intro pins s σ H Q I h
  refine wpAny_Call_Name_kw (ld_glob I hg hm ?_ hdb)
  refine PySem.W.callWith_K (h₀ := X.base) I.ok.mod.kin hk (thn (ha pos pins s σ H _ I h) fun us s1 ⟨vs, H1, I1, r, q⟩ => ⟨I1.kIn, ?_⟩) he hpl
  exact run_fn F hr hb hd hx I1 r q
/-- o.m(e, ..) -/
theorem pe_meth {pl : Sem Bool} (he : PE X o ta) (c : Cls X.K C) (hm : Meth X.K C m f) (F : FnOk X.prog X.w X.K X.mg X.base CX k f fd ps sp) (hr : Room k X.A) (hb : Binds X.K fd ps ds) (hd : Vals dvs ds) (hx : Passes CX X E) (ha : PA X (e :: es) t)
    (hst : starEach (e :: es) X.env = (false, eval e X.env) :: starEach es X.env := by rfl) (hpl : (backTo pos (starEach es X.env)).any (·.1) = false := by rfl)
    (ht : eval (.Call (.Attribute o m apos) (e :: es) [] pos) X.env = (do
      let ov ← eval o X.env
      standAt apos.atName
      let (f, first) ← holding [ov] (getMethod ov m pl)
      callWith pos f first (backTo pos (starEach (e :: es) X.env)) (backToKw pos (keywordEach [] X.env))) := by rfl) :
    PE X (.Call (.Attribute o m apos) (e :: es) [] pos) (tMeth C m sp dvs E ta t) := by
  intro pins s σ H Q I h
  refine PySem.W.methodCall_KW (pl := pl) (thn (he pins s σ H _ I h) fun u s1 ⟨x, H1, I1, rx, a, dx, fs, ex, ea, l, q⟩ => ?_) ht
  subst ex
  obtain rfl : u = Value.ref a := rx
  refine getmeth_ok I1 ea c hm l ?_
  refine PySem.W.callWith_K (first := [.ref a]) (h₀ := X.base) I.ok.mod.kin hm.kp (thn (ha pos pins s1 σ H1 _ I1 q) fun us s2 ⟨vs, H2, I2, r, q2⟩ => ⟨I2.kIn, ?_⟩) hst hpl
  exact run_fn (us := .ref a :: us) (vs := .ref a :: vs) F hr hb hd hx I2 (.cons rfl r) q2
/-- o.m() -/
theorem pe_meth0 {pl : Sem Bool} (he : PE X o ta) (c : Cls X.K C) (hm : Meth X.K C m f) (F : FnOk X.prog X.w X.K X.mg X.base CX k f fd ps sp) (hr : Room k X.A) (hb : Binds X.K fd ps ds) (hd : Vals dvs ds) (hx : Passes CX X E)
    (ht : eval (.Call (.Attribute o m apos) [] [] pos) X.env = (do
      let ov ← eval o X.env
      standAt apos.atName
      let (f, first) ← holding [ov] (getMethod ov m pl)
      callWith pos f first (backTo pos (starEach [] X.env)) (backToKw pos (keywordEach [] X.env))) := by rfl) :
    PE X (.Call (.Attribute o m apos) [] [] pos) (tMeth C m sp dvs E ta tNil) := by
  intro pins s σ H Q I h
  refine PySem.W.methodCall_KW (pl := pl) (thn (he pins s σ H _ I h) fun u s1 ⟨x, H1, I1, rx, a, dx, fs, ex, ea, l, q⟩ => ?_) ht
  subst ex
  obtain rfl : u = Value.ref a := rx
  refine getmeth_ok I1 ea c hm l ?_
  exact PySem.W.callWith_K0 (first := [.ref a]) I1.kIn hm.kp (run_fn (us := [.ref a]) (vs := [.ref a]) F hr hb hd hx I1 (.cons rfl .nil) q)

/-- what a class must have to be made -/
structure Mk (K : PySem.W.Frag) (C f : Addr) : Prop where
  makes : PySem.W.makesIn K C = true
  init : PySem.W.findIn K (.ref C) "__init__" = some (some (.ref f))
  fn : PySem.W.isFn K (.ref f) = true
  kp : PySem.W.keepIn K (.ref C) = true

end

/-! ### keywords -/
/-- the values of the keywords, from the left -/
def PK (X : Cx) (kws : List Keyword) (t : TA) : Prop :=
  ∀ (pos : Pos) (pins : List (Addr × Obj)) (s : Shared) (σ : St) (H : Hp) (Q : List V → Hp → Prop), Inv X pins σ H s → t σ H Q → wpAny (model X.prog X.w) X.A (evalAll ((backToKw pos (keywordEach kws X.env)).map (·.2))) (AP X pins σ Q) X.xe s
section
variable {X : Cx} {CX : CXT} {k : Nat} {f C : Addr} {fd : FuncData} {ps ks : List Str} {sp : Sp} {E : XK} {x m : Str} {p pos apos kpos : Pos} {e o : Expr} {es : List Expr} {kws : List Keyword} {te ta : TE} {t tk : TA} {nm : Option Str}
theorem pk_nil : PK X [] tNil := fun _ _ _ _ H Q I h => wpAny_evalAll_nil ⟨[], H, I, .nil, h⟩
theorem pk_cons (ha : PE X e te) (hr : PK X kws t) : PK X (⟨nm, e, kpos⟩ :: kws) (tCons te t) := by
  intro pos pins s σ H Q I h
  show wpAny _ _ (evalAll ((do let v ← eval e X.env; standAt pos; pure v) :: (backToKw pos (keywordEach kws X.env)).map (·.2))) _ _ s
  refine wpAny_evalAll_cons (wpAny_bind (thn (ha pins s σ H _ I h) fun u s1 ⟨x, H1, I1, r1, q1⟩ => wpAny_bind (wpAny_standAt (wpAny_pure ?_))))
  exact thn (hr pos pins s1 σ H1 _ I1 q1) fun us s2 ⟨xs, H2, I2, r2, q2⟩ => ⟨x :: xs, H2, I2, .cons r1 r2, q2⟩

/-- how a call with keywords binds: g puts the positional values us and the keywords' values ws (names ks) in the parameters' order, defaults among them -/
structure KBinds (K : PySem.W.Frag) (fd : FuncData) (ps ks : List Str) (g : List Value → List Value → List Value) (gV : List V → List V → List V) : Prop where
  to : ∀ (s : Shared) (us ws : List Value), K.In s.heap → (g us ws).length = ps.length → BindsTo s fd ⟨us, ks.zip ws⟩ (ps.zip (g us ws))
  rel : ∀ {vs : List V} {us : List Value} {zs : List V} {ws : List Value}, Vals vs us → Vals zs ws → Vals (gV vs zs) (g us ws)
def tCallK (sp : Sp) (gV : List V → List V → List V) (E : XK) (t tk : TA) : TE := fun σ H Q => t σ H fun vs H1 => tk σ H1 fun zs H2 => sp (gV vs zs) H2 Q E
variable {g : List Value → List Value → List Value} {gV : List V → List V → List V}
theorem run_fnk {pins : List (Addr × Obj)} {σ : St} {H : Hp} {s : Shared} {Q : VK} {us ws : List Value} {vs zs : List V} (F : FnOk X.prog X.w X.K X.mg X.base CX k f fd ps sp) (hr : Room k X.A) (hb : KBinds X.K fd ps ks g gV) (hx : Passes CX X E)
    (I : Inv X pins σ H s) (r : Vals vs us) (rz : Vals zs ws) (h : sp (gV vs zs) H Q E) : wpAny (model X.prog X.w) X.A (call (.ref f) us (ks.zip ws)) (EP X pins σ Q) X.xe s := by
  have r2 := hb.rel r rz
  have hl : (g us ws).length = ps.length := by rw [← r2.length]; exact F.len _ _ _ _ h
  refine wpAny_call (codeAny_mono (F.run X.A X.stack s H ⟨us, ks.zip ws⟩ (g us ws) (gV vs zs) Q E hr I.env0 (hb.to s us ws I.kIn hl) r2 h) fun r s' hq => ?_)
  cases r with
  | error e => exact hx pins σ H s e s' I hq
  | ok fl =>
    cases fl with
    | ret u => exact I.after hq
    | next => exact False.elim hq
    | brk => exact False.elim hq
    | cont => exact False.elim hq
/-- f(e, .., k = v, ..) -/
theorem pe_callK (F : FnOk X.prog X.w X.K X.mg X.base CX k f fd ps sp) (hr : Room k X.A) (hg : Gl X x) (hm : X.mg x = some (.ref f)) (hk : PySem.W.keepIn X.K (.ref f) = true) (hb : KBinds X.K fd ps ks g gV) (hx : Passes CX X E)
    (ha : PA X (e :: es) t) (hkw : PK X kws tk) (hall : (backToKw pos (keywordEach kws X.env)).all (·.1.isSome) = true := by rfl) (hks : (backToKw pos (keywordEach kws X.env)).filterMap (·.1) = ks := by rfl)
    (hdb : (x == ("__debug__" : Str)) = false := by decide) (he : starEach (e :: es) X.env = (false, eval e X.env) :: starEach es X.env := by rfl)
    (hpl : ((backTo pos (starEach (e :: es) X.env)).any (·.1) || (backToKw pos (keywordEach kws X.env)).any (·.1.isNone)) = false := by rfl) :
    PE X (.Call (.Name x p) (e :: es) kws pos) (tCallK sp gV E t tk) := by
  intro pins s σ H Q I h
  refine wpAny_Call_Name_kw (ld_glob I hg hm ?_ hdb)
  refine PySem.W.callWith_KW (h₀ := X.base) I.ok.mod.kin hk hall (thn (ha pos pins s σ H _ I h) fun us s1 ⟨vs, H1, I1, r, q⟩ => ?_) hpl he
  refine thn (hkw pos pins s1 σ H1 _ I1 q) fun ws s2 ⟨zs, H2, I2, rz, q2⟩ => ⟨I2.kIn, ?_⟩
  rw [hks]
  exact run_fnk F hr hb hx I2 r rz q2
end

/-! ### a def's body keeps its promise -/
/-- names: the parameters first -/
structure FnScope (N P : List Str) (sc : Scope) : Prop where
  kind : sc.kind = .function
  co : sc.isCoroutine = false
  gen : sc.isGenerator = false
  nd : N.Nodup
  pre : N.take P.length = P
  par : ∀ x ∈ P, sc.names.lookup x = some .local ∨ sc.names.lookup x = some .cell
  nofree : ∀ y ∈ sc.names, y.2 ≠ .free

theorem bindL_out {kindOf : Str → Option NameKind} {x : Str} : ∀ {binds : List (Str × Value)} {m : Str → Option Value}, (∀ v, (x, v) ∉ binds) → bindL kindOf binds m x = m x
  | [], _, _ => rfl
  | (n, v) :: r, m, h => by
    unfold bindL
    rw [bindL_out fun w hw => h w (List.mem_cons_of_mem _ hw)]
    split
    · have : x ≠ n := by rintro rfl; exact h v List.mem_cons_self
      simp [this]
    · rfl
theorem bindC_out {kindOf : Str → Option NameKind} {x : Str} : ∀ {binds : List (Str × Value)} {m : Str → Option Value}, (∀ v, (x, v) ∉ binds) → bindC kindOf binds m x = m x
  | [], _, _ => rfl
  | (n, v) :: r, m, h => by
    unfold bindC
    rw [bindC_out fun w hw => h w (List.mem_cons_of_mem _ hw)]
    split
    · rfl
    · have : x ≠ n := by rintro rfl; exact h v List.mem_cons_self
      simp [this]
theorem bindL_get {kindOf : Str → Option NameKind} {x : Str} {v : Value} : ∀ {P : List Str} {vs : List Value} {i : Nat} {m : Str → Option Value}, P.Nodup → P[i]? = some x → vs[i]? = some v → kindOf x = some .local →
    bindL kindOf (P.zip vs) m x = some v
  | [], _, _, _, _, h, _, _ => by simp at h
  | _ :: _, [], _, _, _, _, h, _ => by simp at h
  | p :: P, w :: vs, 0, m, nd, h1, h2, hk => by
    simp at h1 h2; subst h1; subst h2
    show bindL kindOf ((p, w) :: P.zip vs) m p = _
    unfold bindL
    rw [bindL_out fun v hv => (List.nodup_cons.mp nd).1 (List.of_mem_zip hv).1, if_pos hk]
    simp
  | p :: P, w :: vs, i + 1, m, nd, h1, h2, hk => by
    show bindL kindOf ((p, w) :: P.zip vs) m x = _
    unfold bindL
    exact bindL_get (i := i) (List.nodup_cons.mp nd).2 (by simpa using h1) (by simpa using h2) hk
theorem bindC_get {kindOf : Str → Option NameKind} {x : Str} {v : Value} : ∀ {P : List Str} {vs : List Value} {i : Nat} {m : Str → Option Value}, P.Nodup → P[i]? = some x → vs[i]? = some v → kindOf x ≠ some .local →
    bindC kindOf (P.zip vs) m x = some v
  | [], _, _, _, _, h, _, _ => by simp at h
  | _ :: _, [], _, _, _, _, h, _ => by simp at h
  | p :: P, w :: vs, 0, m, nd, h1, h2, hk => by
    simp at h1 h2; subst h1; subst h2
    show bindC kindOf ((p, w) :: P.zip vs) m p = _
    unfold bindC
    rw [bindC_out fun v hv => (List.nodup_cons.mp nd).1 (List.of_mem_zip hv).1, if_neg hk]
    simp
  | p :: P, w :: vs, i + 1, m, nd, h1, h2, hk => by
    show bindC kindOf ((p, w) :: P.zip vs) m x = _
    unfold bindC
    exact bindC_get (i := i) (List.nodup_cons.mp nd).2 (by simpa using h1) (by simpa using h2) hk

/-- the names' values at the entry -/
def start (N : List Str) (vs : List V) : St := vs.map some ++ List.replicate (N.length - vs.length) none

/-- the context of a def's body, at its entry; an exception leaves the frame, then lies as CX says -/
def cxOf (CX : CXT) (P : Program) (w : World) (K : PySem.W.Frag) (mg : Str → Option Value) (base : Heap) (N : List Str) (qual : Str) (scope : Scope) (f : Addr) (cd : Value) (A : Around) (outer : List Env) (s : Shared) (H : Hp) (E : XK) : Cx where
  prog := P
  w := w
  K := K
  mg := mg
  base := base
  A := A.deeper (envOfC qual scope s.heap.objs.size f cd)
  N := N
  s₀ := s
  H₀ := H
  env := envOfC qual scope s.heap.objs.size f cd
  outer := outer
  stack := envOfC qual scope s.heap.objs.size f cd :: outer
  ex := []
  calm := true
  fn := fun _ => true
  pn := []
  xe := fun e s' => wpAny (model P w) (A.deeper (envOfC qual scope s.heap.objs.size f cd)) (leaving (envOfC qual scope s.heap.objs.size f cd) e) (fun _ s'' => CX outer H s E e s'') (fun e' s'' => CX outer H s E e' s'') s'

theorem cell_has {sc : Scope} {n : Nat} {x : Str} (h : sc.names.lookup x = some .cell) : ∃ c, (cellsFrom n sc.names []).lookup x = some c := by
  have q := PySem.W.cellsFrom_some sc.names n [] (.inl h)
  exact Option.isSome_iff_exists.mp q

theorem inv_start {CX : CXT} {P : Program} {w : World} {K : PySem.W.Frag} {mg : Str → Option Value} {base : Heap} {N ps : List Str} {qual : Str} {scope : Scope} {f : Addr} {cd : Value} {A : Around} {outer : List Env} {s s1 : Shared} {H : Hp} {E : XK} {us : List Value} {vs : List V}
    (S : FnScope N ps scope) (hd : A.handled = none) (e0 : Env0 P w K mg base A outer s H) (hl : vs.length = ps.length) (r : Vals vs us)
    (x : InCallC s s.heap.objs.size (bindL (envOfC qual scope s.heap.objs.size f cd).kindOf (ps.zip us) fun _ => none) (cellsFrom (s.heap.objs.size + 1) scope.names []) (bindC (envOfC qual scope s.heap.objs.size f cd).kindOf (ps.zip us) fun _ => none) s1) :
    Inv (cxOf CX P w K mg base N qual scope f cd A outer s H E) [] (start N vs) H s1 := by
  have hpl : ps.length ≤ N.length := by have := congrArg List.length S.pre; rw [List.length_take] at this; omega
  obtain ⟨h1, tk, rfl, hk⟩ := x.done
  have noA : ∀ b : Addr, b ∉ (cxOf CX P w K mg base N qual scope f cd A outer s H E).ex := fun b z => absurd (show b ∈ ([] : List Addr) from z) (by simp)
  refine ⟨⟨e0.mod, S.kind, rfl, rfl, Nat.le_refl _, fun y z c h1 h2 => ?_, fun y hy => ?_, fun y c _ h => ?_, fun _ => hd, Around.frames_deeper e0.frames, .inr ⟨rfl, rfl⟩, fun b z => absurd z (noA b), e0.bs, e0.bsz, fun b _ _ => noA b, fun b z => absurd z (noA b), e0.funs, e0.frf⟩,
    rfl, e0.bare, Un.kept hk, ⟨_, x.toInCall.ns, fun i y v h1 h2 h3 => ?_⟩, fun y c h => ⟨_, x.cell y c h⟩, e0.hok.fresh (Nat.le_refl _), fun y c h => ?_, fun p hp => absurd (show p ∈ ([] : List (Addr × Obj)) from hp) (by simp), e0.hok.kept hk, ?_⟩
  · exact name_of_addr x.apart (PySem.mem_of_lookup h1) (PySem.mem_of_lookup h2)
  · have hy : scope.names.lookup y = some .cell ∨ scope.names.lookup y = some .free := hy
    rcases hy with hy | hy
    · exact cell_has hy
    · exact absurd rfl (S.nofree _ (PySem.mem_of_lookup hy))
  · exact Nat.le_of_lt (x.above y c (PySem.mem_of_lookup h))
  · have hi : i < vs.length := by
      unfold start at h2
      by_cases hi : i < vs.length
      · exact hi
      · rw [List.getElem?_append_right (by simpa using hi)] at h2
        rw [List.getElem?_replicate] at h2
        split at h2 <;> cases h2
    have ha : vs[i]? = some v := by
      unfold start at h2
      rw [List.getElem?_append_left (by simpa using hi), List.getElem?_map] at h2
      cases e : vs[i]? with
      | none => rw [e] at h2; cases h2
      | some a => rw [e] at h2; cases h2; rfl
    obtain ⟨u, hu, rv⟩ := r.get ha
    have hp : ps[i]? = some y := by
      rw [← S.pre, List.getElem?_take_of_lt (by omega)]; exact h1
    have ndP : ps.Nodup := by rw [← S.pre]; exact S.nd.sublist (List.take_sublist _ _)
    refine ⟨u, rv, ?_⟩
    rcases S.par y (List.mem_of_getElem? hp) with k | k
    · exact .inl ⟨k, bindL_get ndP hp hu k⟩
    · obtain ⟨c, e⟩ := cell_has (n := s.heap.objs.size + 1) k
      refine .inr ⟨.inl k, c, e, ?_⟩
      have q := x.cell y c e
      rw [bindC_get ndP hp hu (by show scope.names.lookup y ≠ _; rw [k]; decide)] at q
      exact q
  · exact e0.hok.fresh (Nat.le_of_lt (x.above y c (PySem.mem_of_lookup h)))
  · unfold start
    show _ = N.length
    rw [List.length_append, List.length_map, List.length_replicate]
    omega

/-- THE RULE: a def (or a method) of the text, by its body. The body's reading t is chosen for each entry; it is run at the parameters' values -/
theorem fn_of {CX : CXT} {P : Program} {w : World} {K : PySem.W.Frag} {mg : Str → Option Value} {base : Heap} {k : Nat} {f : Addr} {name qual : Str} {params : Arguments} {body : List Stmt} {scope : Scope} {dV kV doc pm cdv ct oc : Value} {an od : Option Addr}
    {osl : Array (Option Value)} {N ps : List Str} {sp : Sp} (lk : K.lookup f = some ⟨oc, od, .func (PySem.W.fnOf name qual params body scope dV kV doc pm an cdv ct), osl⟩) (hcd : PySem.W.codeIn K cdv qual = true) (S : FnScope N ps scope)
    (len : ∀ vs H Q E, sp vs H Q E → vs.length = ps.length)
    (hbody : ∀ (A : Around) (outer : List Env) (s : Shared) (H : Hp) (vs : List V) (Q : VK) (E : XK), Room k (A.deeper (envOfC qual scope s.heap.objs.size f cdv)) → sp vs H Q E →
      ∃ t, PSs (cxOf CX P w K mg base N qual scope f cdv A outer s H E) body t ∧ t { nx := fun _ H' => Q .non H', rt := Q } (start N vs) H) :
    FnOk P w K mg base CX (k + 1) f (PySem.W.fnOf name qual params body scope dV kV doc pm an cdv ct) ps sp := by
  refine ⟨len, fun A outer s H args us vs Q E hr e0 hb r hsp => ?_⟩
  have hl := len _ _ _ _ hsp
  have KX : K.In s.heap := e0.mod.kin.keeps fun b o e => (e0.bs b o e).1
  have lim : s.heap.NoLimit := e0.mod.nolimit.keeps fun b o e => (e0.bs b o e).1
  have hkind : ∀ y ∈ ps.zip us, scope.names.lookup y.1 = some .local ∨ (scope.names.lookup y.1 = some .cell ∧ ((cellsFrom (s.heap.objs.size + 1) scope.names []).lookup y.1).isSome = true) := fun ⟨n, v⟩ hy => by
    rcases S.par n (List.of_mem_zip hy).1 with q | q
    · exact .inl q
    · exact .inr ⟨q, PySem.W.cellsFrom_some _ _ _ (.inl q)⟩
  refine codeAny_call_function hr.depth (KX _ _ lk) rfl S.co S.gen rfl (PySem.W.codeRec_of KX hcd) (hb _ _ _ _ ?_)
  refine wpAny_newFunctionEnv_cells S.kind hkind fun env he s1 x => ?_
  subst he
  refine ⟨lim.keeps x.toInCall.keep, codeAny_func ?_⟩
  obtain ⟨t, ht, hq⟩ := hbody A outer s H vs Q E (hr.deeper _) hsp
  have I : Inv (cxOf CX P w K mg base N qual scope f cdv A outer s H E) [] (start N vs) H s1 := inv_start S hr.hd e0 hl r x
  refine wpAny_mono (ht [] s1 (start N vs) H _ I hq) (fun fl s' hs => ?_) fun e s' hs => hs
  have fin : ∀ {σ' : St} {H' : Hp} {v : V} {u : Value}, Inv (cxOf CX P w K mg base N qual scope f cdv A outer s H E) [] σ' H' s' → RelV v u → Q v H' → CE outer P w H s Q u s' :=
    fun {σ' H' v u} J rv q => ⟨v, H', J.os, J.bare, J.base, J.hok, rv, q⟩
  cases fl with
  | ret u =>
    obtain ⟨v, σ', H', J, rv, q⟩ := hs
    exact fin J rv q
  | next =>
    obtain ⟨σ', H', J, q⟩ := hs
    exact fin (v := V.non) (u := Value.none) J rfl q
  | brk =>
    obtain ⟨_, _, _, q⟩ := hs
    exact False.elim q
  | cont =>
    obtain ⟨_, _, _, q⟩ := hs
    exact False.elim q
end L2

namespace L2
open PySem PySem.Spec PyProof.Rows
section
variable {X : Cx} {x : Str} {p pos : Pos} {e : Expr} {es : List Expr} {t : TA} {id T : String} {r : List V → Hp → VK → Prop}

def tCB (r : List V → Hp → VK → Prop) (t : TA) : TE := fun σ H Q => t σ H fun vs H1 => r vs H1 Q
/-- f(e, ..), f a built-in function -/
theorem pe_callB (hc : CallR X (.builtin id) r) (hg : Gl X x) (hm : X.mg x = none) (hv : bootBuiltins x = some (.builtin id)) (ha : PA X (e :: es) t) (hn : x ≠ "__name__" := by decide) (hdb : (x == ("__debug__" : Str)) = false := by decide)
    (he : starEach (e :: es) X.env = (false, eval e X.env) :: starEach es X.env := by rfl) (hpl : (backTo pos (starEach es X.env)).any (·.1) = false := by rfl) : PE X (.Call (.Name x p) (e :: es) [] pos) (tCB r t) := by
  intro pins s σ H Q I h
  refine wpAny_Call_Name_kw (ld_blt I hg hm hv ?_ hn hdb)
  exact PyProof.Rows.callWith_builtin1 (thn (ha pos pins s σ H _ I h) fun us s1 ⟨vs, H1, I1, r1, q1⟩ => hc pins s1 σ H1 vs us Q I1 r1 q1) he hpl
/-- T(e, ..), T a built-in type -/
theorem pe_callTy (hc : CallR X (.type T) r) (hg : Gl X x) (hm : X.mg x = none) (hv : bootBuiltins x = some (.type T)) (ha : PA X (e :: es) t) (hn : x ≠ "__name__" := by decide) (hdb : (x == ("__debug__" : Str)) = false := by decide)
    (he : starEach (e :: es) X.env = (false, eval e X.env) :: starEach es X.env := by rfl) (hpl : (backTo pos (starEach es X.env)).any (·.1) = false := by rfl) : PE X (.Call (.Name x p) (e :: es) [] pos) (tCB r t) := by
  intro pins s σ H Q I h
  refine wpAny_Call_Name_kw (ld_blt I hg hm hv ?_ hn hdb)
  exact PyProof.Rows.callWith_type1 (thn (ha pos pins s σ H _ I h) fun us s1 ⟨vs, H1, I1, r1, q1⟩ => hc pins s1 σ H1 vs us Q I1 r1 q1) he hpl
end
end L2

namespace HT
open PySem PyProof.Rows

section
open PySem.SeqAt
open PySem.AutoSeq1 (wpAny_loadPart')
open PySem.MeetsSeq PySem.MeetsSeq2 PySem.MeetsSeq3

end

section
variable {prog : Program} {w : World} {A : Around} {E : Value → Shared → Prop} {s : Shared}

/-! ### t[a:b], not the whole -/
end
end HT

namespace L2
open PySem PySem.Spec PyProof.Rows

/-! ### the parts of a slice -/
abbrev TO := St → Hp → (Option Int → Hp → Prop) → Prop
theorem intsAre_of {ns : List Int} : ∀ {us : List Value}, Vals (ns.map V.int) us → IntsAre us ns := by
  induction ns with
  | nil => intro us r; rw [List.map_nil] at r; cases r; exact .nil
  | cons n ns ih =>
    intro us r
    rw [List.map_cons] at r
    cases r with
    | cons r1 r2 =>
      obtain ⟨t, e⟩ := r1
      subst e
      exact .cons n t (ih r2)

section
variable {X : Cx} {e : Expr} {te : TE} {lo hi : Option Expr} {tl th : TO} {pos p2 : Pos}

/-- what a slice of a value is, by values: the slice object stands at sl -/
def SlR (X : Cx) (r : V → Option Int → Option Int → Hp → VK → Prop) : Prop :=
  ∀ (pins : List (Addr × Obj)) (s : Shared) (σ : St) (H : Hp) (x : V) (v vl vu : Value) (lo hi : Option Int) (sl : Addr) (Q : VK), Inv X pins σ H s → RelV x v → s.heap.IsSliceOf sl vl vu .none → IsPart vl lo → IsPart vu hi → r x lo hi H Q →
    ∃ T id, typeLookup (.type T) "__getitem__" = pure (some (.builtin id)) ∧ s.TypeIs v T ∧ wpAny (model X.prog X.w) X.A (getItem v (.ref sl)) (EP X pins σ Q) X.xe s
theorem SlR.or {r r' : V → Option Int → Option Int → Hp → VK → Prop} (h : SlR X r) (h' : SlR X r') : SlR X (fun x lo hi H Q => r x lo hi H Q ∨ r' x lo hi H Q) := by
  intro pins s σ H x v vl vu lo hi sl Q I rx hs pl pu q
  rcases q with q | q
  · exact h pins s σ H x v vl vu lo hi sl Q I rx hs pl pu q
  · exact h' pins s σ H x v vl vu lo hi sl Q I rx hs pl pu q
/-! ### t < u, t + u -/
end
end L2

namespace L2
open PySem PySem.Spec PyProof.Rows

/-! ### places -/
/-- the place that an index of any sign means -/
def ixN (n : Nat) (i : Int) : Option Nat := if 0 ≤ i then (if i < n then some i.toNat else none) else if -(n : Int) ≤ i then some (i + n).toNat else none
def atI {α : Type} (xs : List α) (i : Int) : Option α := (ixN xs.length i).bind fun j => xs[j]?
theorem ixN_seq {n : Nat} {i : Int} {j : Nat} (h : ixN n i = some j) : seqIndex? i n = some j ∧ j < n ∧ -(n : Int) ≤ i ∧ i < n := by
  unfold ixN at h
  by_cases h0 : 0 ≤ i
  · rw [if_pos h0] at h
    by_cases h1 : i < n
    · rw [if_pos h1] at h
      have e : i.toNat = j := Option.some.inj h
      exact ⟨by rw [seqIndex_of h0 h1, e], by omega, by omega, h1⟩
    · rw [if_neg h1] at h; cases h
  · rw [if_neg h0] at h
    by_cases h1 : -(n : Int) ≤ i
    · rw [if_pos h1] at h
      have e : (i + n).toNat = j := Option.some.inj h
      exact ⟨by rw [seqIndex_neg (by omega) h1, e], by omega, h1, by omega⟩
    · rw [if_neg h1] at h; cases h
theorem atI_get {α : Type} {xs : List α} {i : Int} {v : α} (h : atI xs i = some v) : ∃ j, seqIndex? i xs.length = some j ∧ xs[j]? = some v ∧ j < xs.length ∧ -(xs.length : Int) ≤ i ∧ i < xs.length := by
  unfold atI at h
  cases e : ixN xs.length i with
  | none => rw [e] at h; cases h
  | some j =>
    rw [e] at h
    obtain ⟨h1, h2, h3, h4⟩ := ixN_seq e
    exact ⟨j, h1, h, h2, h3, h4⟩
/-! ### what may be subscripted -/
/-- what stands as an index of a plain subscript -/
def PlainIx (b : Expr) : Prop := ∀ o i, subscripted b false o i = operate [o, i] (getItem o i)
/-- a subscript by values -/
def IxR (X : Cx) (r : R2) : Prop :=
  ∀ (value slice : Expr) (pins : List (Addr × Obj)) (s : Shared) (σ : St) (H : Hp) (x y : V) (v u : Value) (Q : VK), Inv X pins σ H s → RelV x v → RelV y u → r x y H Q →
    subscripted slice false v u = operate [v, u] (getItem v u) → wpAny (model X.prog X.w) X.A (subscriptTail value slice v u) (EP X pins σ Q) X.xe s
/-- a call of a builtin's method by values: the receiver, the arguments -/
def MtR (X : Cx) (id : String) (r : V → List V → Hp → VK → Prop) : Prop :=
  ∀ (pins : List (Addr × Obj)) (s : Shared) (σ : St) (H : Hp) (x : V) (xs : List V) (v : Value) (us : List Value) (Q : VK), Inv X pins σ H s → RelV x v → Vals xs us → r x xs H Q →
    wpAny (model X.prog X.w) X.A (call (.builtin id) (v :: us)) (EP X pins σ Q) X.xe s
section
variable {X : Cx} {a b : Expr} {ta tb : TE} {pos : Pos}
theorem IxR.or {r r' : R2} (h : IxR X r) (h' : IxR X r') : IxR X (fun x y H Q => r x y H Q ∨ r' x y H Q) := by
  intro value slice pins s σ H x y v u Q I rx ry q hs
  rcases q with q | q
  · exact h value slice pins s σ H x y v u Q I rx ry q hs
  · exact h' value slice pins s σ H x y v u Q I rx ry q hs
theorem MtR.or {id : String} {r r' : V → List V → Hp → VK → Prop} (h : MtR X id r) (h' : MtR X id r') : MtR X id (fun x xs H Q => r x xs H Q ∨ r' x xs H Q) := by
  intro pins s σ H x xs v us Q I rx rs q
  rcases q with q | q
  · exact h pins s σ H x xs v us Q I rx rs q
  · exact h' pins s σ H x xs v us Q I rx rs q
/-- a[b] -/
theorem pe_ix {r : R2} (hr : IxR X r) (ha : PE X a ta) (hb : PE X b tb) (hs : PlainIx b) : PE X (.Subscript a b pos) (tOp r ta tb) := by
  intro pins s σ H Q I h
  exact Subscript_ (binT ha hb I h fun v u s2 x y H2 I2 rx ry q => hr a b pins s2 σ H2 x y v u Q I2 rx ry q (hs _ _))

def rIxL (K : PySem.W.Frag) : R2 := fun x y H Q => ∃ p xs i v, x = .ref p ∧ y = .int i ∧ SqL K H p xs ∧ atI xs i = some v ∧ Q v H
def rIxT (K : PySem.W.Frag) : R2 := fun x y H Q => ∃ p xs i v, x = .ref p ∧ y = .int i ∧ SqT K H p xs ∧ atI xs i = some v ∧ Q v H
theorem ix_list : IxR X (rIxL X.K) := by
  intro value slice pins s σ H x y v u Q I rx ry h hs
  obtain ⟨p, xs, i, z, rfl, rfl, hq, he, q⟩ := h
  cases rx
  obtain ⟨t, rfl⟩ := ry
  obtain ⟨its, r, pl, hz⟩ := I.list hq
  obtain ⟨j, h1, h2, h3, h4, h5⟩ := atI_get he
  obtain ⟨w, ew, rw'⟩ := r.get h2
  have hl := r.length
  have hn := line63
  have fin : EP X pins σ Q w s := ⟨z, H, I, rw', q⟩
  by_cases h0 : 0 ≤ i
  · have hj : i.toNat = j := by
      rw [seqIndex_of h0 h5] at h1
      exact Option.some.inj h1
    exact item_listR pl.isList h0 (by omega) (by rw [hj]; simpa using ew) fin hs
  · have hj : (i + (its.toArray.size : Int)).toNat = j := by
      rw [seqIndex_neg (by omega) h4] at h1
      rw [List.size_toArray, ← hl]
      exact Option.some.inj h1
    exact subscriptTail_builtinR (x := w) pl.isList.typeIs slot_list_getitem.lookup
      (wpAny_getItem_list_neg (Q := fun r s' => r = w ∧ EP X pins σ Q r s') pl.isList (by omega) (by rw [List.size_toArray] <;> omega) (by omega) (by rw [hj]; simpa using ew) ⟨rfl, fin⟩) hs
theorem ix_tup : IxR X (rIxT X.K) := by
  intro value slice pins s σ H x y v u Q I rx ry h hs
  obtain ⟨p, xs, i, z, rfl, rfl, hq, he, q⟩ := h
  cases rx
  obtain ⟨t, rfl⟩ := ry
  obtain ⟨its, r, pl, hz⟩ := I.tuple hq
  obtain ⟨j, h1, h2, h3, h4, h5⟩ := atI_get he
  obtain ⟨w, ew, rw'⟩ := r.get h2
  have hl := r.length
  have hn := line63
  have fin : EP X pins σ Q w s := ⟨z, H, I, rw', q⟩
  exact subscriptTail_builtinR (x := w) pl.typeIs slot_tuple_getitem.lookup
    (getItem_tuple (j := j) (Q := fun r s' => r = w ∧ EP X pins σ Q r s') pl (by omega) (by omega) (by rw [List.size_toArray, ← hl]; exact h1) (by simpa using ew) ⟨rfl, fin⟩) hs
/-! ### xs[i] = v, any sign -/
/-- the list's object behind a store -/
theorem mapSeq_set (its : List Value) (n j : Nat) (u : Value) : Obj.mapSeq (·.setIfInBounds j u) { cls := .type "list", data := .seq its.toArray n } = { cls := .type "list", data := .seq (its.set j u).toArray n } := by
  simp [Obj.mapSeq]
theorem Inv.lst {pins : List (Addr × Obj)} {σ : St} {H : Hp} {s : Shared} {p : Addr} {xs : List V} (I : Inv X pins σ H s) (h : H p = some (.lst xs)) :
    ∃ (its : List Value) (n : Nat), Vals xs its ∧ s.heap.get? p = some { cls := .type "list", data := .seq its.toArray n } ∧ xs.length ≤ sizeLine := by
  obtain ⟨z, its, n, r, e⟩ := I.hok p _ h
  exact ⟨its, n, r, e, z⟩
/-- the list at p is written by an update of its object -/
theorem Inv.lstUpd {pins : List (Addr × Obj)} {σ : St} {H : Hp} {s : Shared} {p : Addr} {xs ys : List V} {its its' : List Value} {n n' : Nat} {f : Obj → Obj} (I : Inv X pins σ H s) (h : H p = some (.lst xs))
    (ho : s.heap.get? p = some { cls := .type "list", data := .seq its.toArray n }) (hf : f { cls := .type "list", data := .seq its.toArray n } = { cls := .type "list", data := .seq its'.toArray n' }) (r : Vals ys its') (hz : ys.length ≤ sizeLine) (t : Nat) :
    Inv X pins σ (upd H p (.lst ys)) { s with heap := s.heap.update p f, toks := t } := by
  have e : (s.heap.update p f).get? p = some { cls := .type "list", data := .seq its'.toArray n' } := by
    rw [Heap.get?_update_self f ho (by rw [hf] <;> rfl), hf]
  refine I.write (x := p) (e := p) (by rw [h]; trivial) (.inl rfl) (fun b u hb q => (Heap.get?_update_other _ _ (Ne.symm hb)).trans q) ⟨_, e⟩ ?_
  exact ⟨hz, its', n', r, e⟩
def rSetL : V → V → V → Hp → (Hp → Prop) → Prop := fun o i v H Q => ∃ p xs k j, o = .ref p ∧ i = .int k ∧ H p = some (.lst xs) ∧ ixN xs.length k = some j ∧ Q (upd H p (.lst (xs.set j v)))
theorem set_list : PSet X rSetL := by
  intro pins s σ H o i v ov iv u Q I ro ri rv h
  obtain ⟨p, xs, k, j, rfl, rfl, hp, hj, q⟩ := h
  cases ro
  obtain ⟨t, rfl⟩ := ri
  obtain ⟨its, n, r, ho, hz⟩ := I.lst hp
  obtain ⟨h1, h2, h3, h4⟩ := ixN_seq hj
  have hl := r.length
  have hn := line63
  have I' : Inv X pins σ (upd H p (.lst (xs.set j v))) { s with heap := s.heap.update p (Obj.mapSeq (·.setIfInBounds j u)) } :=
    I.lstUpd hp ho (mapSeq_set its n j u) (r.set rv j) (by rw [List.length_set]; exact hz) s.toks
  by_cases h0 : 0 ≤ k
  · have hk : k.toNat = j := by
      rw [seqIndex_of h0 h4] at h1
      exact Option.some.inj h1
    exact PySem.W.ki_setAt ho h0 (by omega) (by rw [List.size_toArray, ← hl]; exact h4) (by rw [hk]; exact ⟨_, I', q⟩)
  · have hk : (k + (its.toArray.size : Int)).toNat = j := by
      rw [seqIndex_neg (by omega) h3] at h1
      rw [List.size_toArray, ← hl]
      exact Option.some.inj h1
    exact PySem.W.ki_setBack ho (by omega) (by rw [List.size_toArray, ← hl]; exact h3) (by omega) (by rw [hk]; exact ⟨_, I', q⟩)

/-! ### slices -/
/-! ### in, not in: flat items -/
/-! ### len, list(x), tuple(x) of any list or tuple that is read -/
theorem call_len_seq : CallR X (.builtin "len") (fun xs H Q => ∃ p ys, xs = [.ref p] ∧ (SqL X.K H p ys ∨ SqT X.K H p ys) ∧ Q (.int ys.length) H) := by
  intro pins s σ H xs us Q I r h
  obtain ⟨p, ys, rfl, hq, q⟩ := h
  obtain ⟨u, rfl, rx⟩ := vals1 r
  cases rx
  have hn := line63
  rcases hq with hq | hq
  · obtain ⟨its, r', pl, hz⟩ := I.list hq
    have hlen := r'.length
    exact Calls.call_len_list pl.isList (by simp only [List.size_toArray] <;> omega) ⟨.int ys.length, H, I.tok _, ⟨s.toks + 1, by rw [List.size_toArray, hlen]⟩, q⟩
  · obtain ⟨its, r', pl, hz⟩ := I.tuple hq
    have hlen := r'.length
    exact len_tuple pl (by simp only [List.size_toArray] <;> omega) ⟨.int ys.length, H, I.tok _, ⟨s.toks + 1, by rw [List.size_toArray, hlen]⟩, q⟩
theorem CallR.or {f : Value} {r r' : List V → Hp → VK → Prop} (h : CallR X f r) (h' : CallR X f r') : CallR X f (fun xs H Q => r xs H Q ∨ r' xs H Q) := by
  intro pins s σ H xs us Q I rs q
  rcases q with q | q
  · exact h pins s σ H xs us Q I rs q
  · exact h' pins s σ H xs us Q I rs q
theorem call_list_of : CallR X (.type "list") (fun xs H Q => ∃ p ys, xs = [.ref p] ∧ (SqL X.K H p ys ∨ SqT X.K H p ys) ∧ ∀ l, H l = none → Q (.ref l) (upd H l (.lst ys))) := by
  intro pins s σ H xs us Q I r h
  obtain ⟨p, ys, rfl, hq, q⟩ := h
  obtain ⟨u, rfl, rx⟩ := vals1 r
  cases rx
  have fin : ∀ (its : List Value), Vals ys its → ys.length ≤ sizeLine → ∀ (h' : Heap) (c' : Nat), (∀ b o', s.heap.get? b = some o' → h'.get? b = some o') →
      h'.get? s.heap.objs.size = some { cls := .type "list", dict := none, data := .seq its.toArray c', slots := #[] } → EP X pins σ Q (.ref s.heap.objs.size) { s with heap := h' } := fun its r' hz h' c' kp e =>
    ⟨.ref s.heap.objs.size, _, I.laid (t' := s.toks) kp (Nat.le_refl _) (show ObjOk X.prog X.w _ h' _ (.lst ys) from ⟨hz, its, c', r', e⟩), rfl, q _ (I.hok.fresh (Nat.le_refl _))⟩
  rcases hq with hq | hq
  · obtain ⟨its, r', pl, hz⟩ := I.list hq
    have hlen := r'.length
    obtain ⟨o, ho, hc, n, hd⟩ := pl.isList
    exact call_list_seq p (.inl rfl) ho hc hd (fun h' c' kp e => fin its r' hz h' c' kp e) (by simp only [List.size_toArray] <;> omega)
  · obtain ⟨its, r', pl, hz⟩ := I.tuple hq
    have hlen := r'.length
    obtain ⟨o, ho, hc, n, hd⟩ := pl
    exact call_list_seq p (.inr rfl) ho hc hd (fun h' c' kp e => fin its r' hz h' c' kp e) (by simp only [List.size_toArray] <;> omega)
/-! ### the call of a builtin's method: o.m(..) -/
/-- the value is of that builtin type -/
def tyV (K : PySem.W.Frag) (T : String) (x : V) (H : Hp) : Prop := match x with
  | .str _ => T = "str"
  | .int _ => T = "int"
  | .ref p => (T = "list" ∧ ∃ xs, SqL K H p xs) ∨ (T = "tuple" ∧ ∃ o, K.lookup p = some o ∧ o.cls = .type "tuple" ∧ o.dict = none) ∨
      (T = "dict" ∧ ((∃ kvs, H p = some (.dK kvs)) ∨ ∃ kvs, H p = some (.dT kvs))) ∨ (T = "set" ∧ ∃ S n, H p = some (.set S n))
  | _ => False
theorem tyV_is {pins : List (Addr × Obj)} {σ : St} {H : Hp} {s : Shared} {T : String} {x : V} {v : Value} (I : Inv X pins σ H s) (r : RelV x v) (ty : tyV X.K T x H) :
    s.TypeIs v T ∧ ∀ a, v = .ref a → ∃ ob, s.heap.get? a = some ob ∧ ob.dict = none := by
  cases x with
  | str z =>
    obtain ⟨t, rfl⟩ := r
    cases (show T = "str" from ty)
    exact ⟨typeIs_str s z t, fun _ e => nomatch e⟩
  | int i =>
    obtain ⟨t, rfl⟩ := r
    cases (show T = "int" from ty)
    exact ⟨typeIs_int s i t, fun _ e => nomatch e⟩
  | ref p =>
    cases r
    rcases ty with ⟨rfl, xs, hq⟩ | ⟨rfl, o, hk, hc, hd⟩ | ⟨rfl, hk⟩ | ⟨rfl, S, n, hk⟩
    · obtain ⟨its, _, pl, _⟩ := I.list hq
      refine ⟨pl.isList.typeIs, fun a e => ?_⟩
      cases e
      obtain ⟨o, n, e, c, hd, _⟩ := pl
      exact ⟨o, e, hd⟩
    · refine ⟨⟨o, I.kIn p o hk, hc⟩, fun a e => ?_⟩
      cases e
      exact ⟨o, I.kIn _ o hk, hd⟩
    · have z : ∃ o, s.heap.get? p = some o ∧ o.ExactDict := by
        rcases hk with ⟨kvs, hk⟩ | ⟨kvs, hk⟩
        · obtain ⟨_, _, _, _, o, _, _, e, ex, _⟩ := I.hok p _ hk
          exact ⟨o, e, ex⟩
        · obtain ⟨_, _, _, _, o, _, _, e, ex, _⟩ := I.hok p _ hk
          exact ⟨o, e, ex⟩
      obtain ⟨o, e, ex⟩ := z
      refine ⟨⟨o, e, ex.1⟩, fun a e2 => ?_⟩
      cases e2
      exact ⟨o, e, ex.2.1⟩
    · obtain ⟨o, _, _, _, e, ex, _⟩ := I.hok p _ hk
      refine ⟨⟨o, e, ex.1⟩, fun a e2 => ?_⟩
      cases e2
      exact ⟨o, e, ex.2.1⟩
  | _ => exact False.elim ty
def tBM0 (K : PySem.W.Frag) (T : String) (r : V → List V → Hp → VK → Prop) (to : TE) : TE := fun σ H Q => to σ H fun x H1 => tyV K T x H1 ∧ r x [] H1 Q
def tBM (K : PySem.W.Frag) (T : String) (r : V → List V → Hp → VK → Prop) (to : TE) (t : TA) : TE := fun σ H Q => to σ H fun x H1 => tyV K T x H1 ∧ t σ H1 fun xs H2 => r x xs H2 Q
variable {o e : Expr} {es : List Expr} {to : TE} {t : TA} {name : Str} {apos cpos : Pos} {T id : String} {r : V → List V → Hp → VK → Prop}
theorem pe_bm0 (pa : PlainAttrs T) (slot : Slot T name id) (hty : typeOf (.builtin id) = pure (.type "method_descriptor")) (hm : MtR X id r) (ho : PE X o to)
    (hbase : attributeBase o name X.env (eval o X.env) = eval o X.env := by rfl) (hline : (apos.endLine == cpos.line) = true := by rfl) : PE X (.Call (.Attribute o name apos) [] [] cpos) (tBM0 X.K T r to) := by
  intro pins s σ H Q I h
  refine wpAny_Call_method0_late hbase hline (thn (ho pins s σ H _ I h) fun v s1 ⟨x, H1, I1, r1, ty, q1⟩ => ?_)
  obtain ⟨h1, h2⟩ := tyV_is I1 r1 ty
  exact ⟨T, id, pa, slot, hty, h1, h2, Calls.callWith_builtin rfl (PySem.evalArgs_none (hm pins s1 σ H1 x [] v [] Q I1 r1 .nil q1))⟩
theorem pe_bm (pa : PlainAttrs T) (slot : Slot T name id) (hty : typeOf (.builtin id) = pure (.type "method_descriptor")) (hm : MtR X id r) (ho : PE X o to) (ha : PA X (e :: es) t)
    (hbase : attributeBase o name X.env (eval o X.env) = eval o X.env := by rfl)
    (hfew : ((backTo cpos (starEach (e :: es) X.env)).all (fun x => !x.1) && (backToKw cpos (keywordEach [] X.env)).all (fun x => x.1.isSome)
      && decide ((e :: es).length + ([] : List Keyword).length + (if ([] : List Keyword).isEmpty then 0 else 1) < 30)) = true := by rfl)
    (hline : (apos.endLine == cpos.line) = true := by rfl) (hs : starEach (e :: es) X.env = (false, eval e X.env) :: starEach es X.env := by rfl) (hplain : (backTo cpos (starEach es X.env)).any (·.1) = false := by rfl) :
    PE X (.Call (.Attribute o name apos) (e :: es) [] cpos) (tBM X.K T r to t) := by
  intro pins s σ H Q I h
  refine wpAny_Call_method_late hbase hfew hline rfl (thn (ho pins s σ H _ I h) fun v s1 ⟨x, H1, I1, r1, ty, q1⟩ => ?_)
  obtain ⟨h1, h2⟩ := tyV_is I1 r1 ty
  refine ⟨T, id, pa, slot, hty, h1, h2, ?_⟩
  have hA := ha cpos pins s1 σ H1 _ I1 q1
  rw [hs] at hA ⊢
  refine Calls.callWith_builtin (by show (false || (backTo cpos (starEach es X.env)).any (·.1)) = false; rw [hplain] <;> rfl) (Calls.evalArgs_plain ?_)
  exact thn hA fun us s2 ⟨vs, H2, I2, r2, q2⟩ => hm pins s2 σ H2 x vs v us Q I2 r1 r2 q2
/- xs.append(e), list.index on a module's tuple .. are MtR facts of 06m -/
end
end L2

namespace L2
open PySem PySem.Spec PyProof.Rows

/-! ### lists of values -/
theorem Vals.one : ∀ {x : V} {us : List Value}, Vals [x] us → ∃ u, us = [u] ∧ RelV x u
  | _, _, .cons r .nil => ⟨_, rfl, r⟩
theorem Vals.two : ∀ {x y : V} {us : List Value}, Vals [x, y] us → ∃ u v, us = [u, v] ∧ RelV x u ∧ RelV y v
  | _, _, _, .cons r (.cons q .nil) => ⟨_, _, rfl, r, q⟩
theorem Vals.zero : ∀ {us : List Value}, Vals [] us → us = []
  | _, .nil => rfl
theorem Vals.reverse {xs : List V} {us : List Value} (h : Vals xs us) : Vals xs.reverse us.reverse := by
  induction h with
  | nil => exact .nil
  | cons r t ih => rw [List.reverse_cons, List.reverse_cons]; exact Vals.append ih (.cons r .nil)
theorem Vals.rep {xs : List V} {us : List Value} (h : Vals xs us) : ∀ k : Nat, Vals (List.replicate k xs).flatten (List.replicate k us).flatten
  | 0 => .nil
  | k + 1 => by
    rw [List.replicate_succ, List.replicate_succ, List.flatten_cons, List.flatten_cons]
    exact Vals.append h (Vals.rep h k)
theorem foldl_rep (its : List Value) : ∀ (k : Nat) (acc : List Value),
    List.foldl (fun x1 x2 => x1 ++ x2) acc.toArray (List.replicate k its.toArray) = (acc ++ (List.replicate k its).flatten).toArray
  | 0, acc => by simp
  | k + 1, acc => by
    have e : acc.toArray ++ its.toArray = (acc ++ its).toArray := by simp
    have e2 : (acc ++ its) ++ (List.replicate k its).flatten = acc ++ (List.replicate (k + 1) its).flatten := by
      rw [List.replicate_succ, List.flatten_cons, List.append_assoc]
    rw [← e2, ← foldl_rep its k (acc ++ its), ← e, List.replicate_succ, List.foldl_cons]

section
variable {X : Cx} {pins : List (Addr × Obj)} {σ : St} {H : Hp} {s : Shared} {l b : Addr} {xs ys zs : List V}

/-! ### the two steps: a tracked list is rewritten, a new list is laid -/
theorem Inv.lnew {its : List Value} {t' : Nat} (I : Inv X pins σ H s) (hv : Vals ys its) (hz : ys.length ≤ sizeLine) :
    Inv X pins σ (upd H s.heap.objs.size (.lst ys)) { s with heap := s.heap.push { cls := .type "list", data := .seq its.toArray }, toks := t' } :=
  I.laid (fun _ _ q => Heap.get?_push_of_some _ q) (Nat.le_refl _) ⟨hz, its, 0, hv, Heap.get?_push_size _ rfl⟩
theorem Inv.fresh (I : Inv X pins σ H s) : H s.heap.objs.size = none := I.hok.fresh (Nat.le_refl _)
theorem Inv.lstM (I : Inv X pins σ H s) (hH : H l = some (.lst xs)) : xs.length ≤ sizeLine ∧ ∃ (its : List Value) (n : Nat), Vals xs its ∧ xs.length = its.length ∧ s.heap.get? l = some { cls := .type "list", data := .seq its.toArray n } := by
  obtain ⟨z, its, n, r, e⟩ := I.hok l _ hH
  exact ⟨z, its, n, r, r.length, e⟩

theorem notLongL {n : Nat} (h : n ≤ sizeLine) : Builtin.List.listTooLong n = false := by
  unfold Builtin.List.listTooLong
  exact decide_eq_false (by omega)
end

section
variable {X : Cx}

/-! ### methods -/
/-! ### list + list, list += list, list * int -/
def rCat : R2 := fun x y H Q => ∃ l b xs zs, x = .ref l ∧ y = .ref b ∧ H l = some (.lst xs) ∧ H b = some (.lst zs) ∧ xs.length + zs.length ≤ sizeLine ∧ ∀ p, H p = none → Q (.ref p) (upd H p (.lst (xs ++ zs)))
theorem op_cat : OpR X (binaryOp .Add) rCat := by
  intro pins s σ H x y v u Q I rx ry h
  obtain ⟨l, b, xs, zs, rfl, rfl, hH, hB, hz, q⟩ := h
  cases rx
  cases ry
  obtain ⟨z, its, n, r, hl, e⟩ := I.lstM hH
  obtain ⟨z2, its2, n2, r2, hl2, e2⟩ := I.lstM hB
  refine PySem.P.add_list e e2 ?_ (by rw [List.size_toArray, List.size_toArray]; omega)
  have ea : its.toArray ++ its2.toArray = (its ++ its2).toArray := by simp
  rw [ea]
  exact ⟨.ref _, _, I.lnew (t' := s.toks) (r.append r2) (by rw [List.length_append]; omega), rfl, q _ I.fresh⟩
/-- a list times an int (a negative one is nothing) -/
def rRep : R2 := fun x y H Q => ∃ l k xs, x = .ref l ∧ y = .int k ∧ H l = some (.lst xs) ∧ -(2 ^ 63) ≤ k ∧ k < 2 ^ 63 ∧ xs.length * k.toNat ≤ sizeLine ∧
  ∀ p, H p = none → Q (.ref p) (upd H p (.lst (List.replicate k.toNat xs).flatten))
theorem len_rep {α : Type} (xs : List α) (k : Nat) : (List.replicate k xs).flatten.length = k * xs.length := by
  induction k with
  | zero => simp
  | succ k ih => rw [List.replicate_succ, List.flatten_cons, List.length_append, ih, Nat.succ_mul, Nat.add_comm]
theorem op_rep : OpR X (binaryOp .Mult) rRep := by
  intro pins s σ H x y v u Q I rx ry h
  obtain ⟨l, k, xs, rfl, rfl, hH, h1, h2, hz, q⟩ := h
  cases rx
  obtain ⟨t, rfl⟩ := ry
  obtain ⟨z, its, n, r, hl, e⟩ := I.lstM hH
  have hlen : its.toArray.size * k.toNat ≤ sizeLine := by rw [List.size_toArray, ← hl]; exact hz
  have hcap : ¬ its.toArray.size * k.toNat > (2 ^ 63 - 1) / 8 := by
    have : (sizeLine : Nat) ≤ (2 ^ 63 - 1) / 8 := by decide
    omega
  have hfit : ¬ (!Builtin.List.listFitsIndex k) = true := by
    rw [fitsIndex_both h1 h2]
    exact Bool.false_ne_true
  have hlong : ¬ Builtin.List.listTooLong (its.toArray.size * k.toNat) = true := by
    rw [notLongL hlen]
    exact Bool.false_ne_true
  have hnew : List.foldl (fun x1 x2 => x1 ++ x2) #[] (List.replicate (if its.toArray.isEmpty = true then 0 else k.toNat) its.toArray) = (List.replicate k.toNat its).flatten.toArray := by
    have f0 : ∀ m : Nat, List.foldl (fun x1 x2 => x1 ++ x2) #[] (List.replicate m its.toArray) = (List.replicate m its).flatten.toArray := fun m => by
      have := foldl_rep its m []
      rw [List.nil_append] at this
      exact this
    rw [f0]
    cases its with
    | nil => simp
    | cons a r' => rw [if_neg (by simp)]
  refine wpAny_binaryOp_repeat_ref (T := "list") (U := "int") (by decide) ⟨_, e, rfl⟩ (fun s' => typeIs_int s' k t) noFill_list_mul F.fills_int_mul F.slot_int_rmul repeat_list F.slot_int_index.lookup
    (call_meets F.slot_int_rmul (typeIs_int s k t) F.entry_int_rmul (F.args_int_rmul_2 _ _) (int___rmul___int_list k t l its.toArray n)
      ⟨e, rfl, ⟨_, e, rfl⟩, call_meets F.slot_list_mul ⟨_, e, rfl⟩ F.entry_list_mul (F.args_list_mul_2 _ _) (AutoListH.list___mul___list_int_3 l its.toArray n k t hfit hcap hlong) ⟨e, ?_⟩⟩)
  rw [hnew]
  exact ⟨.ref _, _, I.lnew (t' := s.toks) (r.rep k.toNat) (by rw [len_rep, Nat.mul_comm]; exact hz), rfl, q _ I.fresh⟩

/-! ### del xs[i] -/
end

/-! ### xs[a:b] = ys -/
section
variable {prog : Program} {w : World} {A : Around} {E : Value → Shared → Prop} {s : Shared}
end

section
variable {X : Cx}
end
end L2

namespace Att
open PySem PySem.W PySem.Calls PyProof.Rows

/-! ### the script -/
theorem ints_of_wellAll {P : Params} {h : Heap} : ∀ (ns : List Int) (vs : List Value), WellAll P h vs (ns.map WData.int) → IntsAre vs ns := by
  intro ns
  induction ns with
  | nil =>
    intro vs w
    rw [List.map_nil] at w
    cases w
    exact .nil
  | cons n ns ih =>
    intro vs w
    rw [List.map_cons] at w
    cases w with
    | cons a b =>
      cases a
      exact .cons _ _ (ih _ b)

theorem script_of {l : OpenLaw} {n : Nat} (hn : l.most = some n) {P : Params} {h : Heap} {args : List WData} {vals : List Value}
    (hpre : l.row.toRowW.claim.pre args = true) (hwl : WellAll P h vals args) :
    ∃ a vs ns, vals = [Value.ref a] ∧ args = [WData.list (ns.map WData.int)] ∧ h.get? a = some { cls := .type "list", data := .seq vs.toArray } ∧ IntsAre vs ns ∧ ns.length ≤ n := by
  have hsh : WShape.hasAll [] args [.list .int] = true := (pre_splitW hpre).1
  have hc : l.pre.holds [] { args := args } = true := (pre_splitW hpre).2
  obtain ⟨d, r, rfl, h1, h2⟩ := hasAllW_cons hsh
  obtain rfl := hasAllW_nil h2
  obtain ⟨xs, rfl, h3⟩ := hasW_list h1
  obtain ⟨ns, rfl⟩ := items_int h3
  have hlen : ns.length ≤ n := by
    unfold OpenLaw.pre at hc
    have h4 : (WTm.not (.lt (.lit (.int (n : Int))) (.len (.arg 0)))).holds [] { args := [.list (ns.map .int)] } = true := by
      have h4 := (holds_andW hc).1
      rw [hn] at h4
      exact h4
    have h5 := condW_of h4 (w_not (w_lt w_lit (w_len_list (w_arg rfl))))
    rw [List.length_map] at h5
    refine Nat.le_of_not_lt fun q => ?_
    have q' : (n : Int) < ((ns.length : Nat) : Int) := by omega
    first
      | (rw [decide_eq_true q'] at h5; exact absurd h5 (by decide))
      | (simp at h5; omega)
  cases hwl with
  | cons w1 w2 =>
    cases w2
    cases w1 with
    | list ho hall => exact ⟨_, _, ns, rfl, rfl, ho, ints_of_wellAll ns _ hall, hlen⟩

theorem post_true (l : OpenLaw) (args : List WData) : l.row.toRowW.claim.post args (.bool true) args = true :=
  postW_of (r := l.row.toRowW) (X := (true == true))
    (show WShape.has [] (.bool true) .bool = true by first | rfl | decide | simp [WShape.has, WShape.arms, WShape.armsAll])
    (show (WTm.eq .res (.lit (.bool true))).value [] { args := args, res := some (.bool true), after := args } = some (.bool (true == true)) from w_eq_bool (w_res rfl) w_lit) rfl

/-! ### the attachment: holds_open's last premise (the goal 'hc' behind k_head) from a wpAny of the law's body -/
/-- the same from a codeAny of the CALL (for a layer whose function contracts speak of calls) -/
theorem attach_call {l : OpenLaw} {n : Nat} {q : Program} {loose : List Str} {XP : (Str → Option Value) → Heap → Prop} {YP : World → Heap → Prop} {d : DefRec}
    (hn : l.most = some n) (hdf : d.params.defaults = [])
    (call : ∀ (w : World) (s₀ s₁ : Shared) (mg mb : Str → Option Value) (fa : Addr) (o : Obj) (pm cd doc : Value) (a : Addr) (vs : List Value) (ns : List Int),
      Ground q loose [] XP w s₀ mg mb s₁.heap → YP w s₁.heap →
      s₁.heap.get? fa = some o → o.data = .func (docDef d.name d.params d.body d.scope pm cd doc) → s₁.heap.CodeRec cd d.name → mg d.name = some (.ref fa) →
      s₁.heap.get? a = some { cls := .type "list", data := .seq vs.toArray } → IntsAre vs ns → ns.length ≤ n → s₁.gens = #[] →
      codeAny (model l.prog w) callerA (.call (.ref fa) ⟨[.ref a], []⟩) (fun r s' => r = .ok (.ret (.bool true)) ∧ OldK s₁.heap s'.heap ∧ s'.os = s₁.os ∧ AllBare s'.gens) s₁) :
    WalkO q loose XP YP l.row.toRowW d [] (fun f vs => PySem.call f vs) := by
  intro w s₀ s₁ mg mb G Y fa o pm cd doc dV kV ho hd hcd hD hmg hg args vals as hpre hlay hrd hwl hlo
  obtain rfl : dV = .none := Dflts.none hD hdf
  obtain rfl : kV = .none := Dflts.noKw hD
  obtain ⟨a, vs, ns, rfl, rfl, hobj, hints, hlen⟩ := script_of hn hpre hwl
  refine enter_call (codeAny_mono (call w s₀ s₁ mg mb fa o pm cd doc a vs ns G Y ho (fd_plain hd) hcd hmg hobj hints hlen hg) fun r s' hq => ?_)
  obtain ⟨rfl, h2, h3, h4⟩ := hq
  exact ⟨.inl ⟨.bool true, .bool true, [], rfl, fun _ => rfl, .bool true, post_true l _, fun _ => ⟨List.Pairwise.nil, fun _ hm => (nomatch hm)⟩⟩, h2, h3, h4⟩

/-! ### rules over ANY heap (no ledger) from facts about the written part K: the library's own take a ledger (News) for what they write -/
section
variable {prog : Program} {w : World} {A : Around} {E : Value → Shared → Prop} {s : Shared} {K : Frag}

/-! the whole heap as the ledger: makes every rule that writes through a ledger a rule over any heap -/
def ledger (h : Heap) (L d : Addr) : List (Addr × Obj) := (List.range h.objs.size).filterMap fun a => if a = L ∨ a = d then none else (h.get? a).map fun o => (a, o)
end
end Att

namespace L2
open PySem PySem.Spec PyProof.Rows

theorem vals_ints : ∀ {vs : List Value} {ns : List Int}, IntsAre vs ns → Vals (ns.map V.int) vs
  | _, _, .nil => .nil
  | _, _, .cons n t h => .cons ⟨t, rfl⟩ (vals_ints h)

/-- nothing is tracked but the script, known to the object (or it is an object of the module) -/
def Only (H : Hp) : Prop := ∀ b, H b = none ∨ ∃ o xs, H b = some (.frz o (.lst xs))

/-- THE HEAD: the law's promise, at the heap behind the top. F, the promise of the law's def, may use that base is part of the heap (so K.In base, base.Ns mainGlobals mg stand in Mod) -/
theorem law_call {P : Program} {w : World} {K : PySem.W.Frag} {mg mb : Str → Option Value} {CX : CXT} {k : Nat} {fa a : Addr} {fd : FuncData} {x : Str} {sp : Sp} {s₁ : Shared} {vs : List Value} {ns : List Int}
    (KX : K.In s₁.heap) (hns : s₁.heap.Ns mainGlobals mg) (hb : s₁.heap.Ns builtinsNs mb) (hbb : ∀ x : Str, x ≠ "__name__" → mb x = bootBuiltins x) (hlim : s₁.heap.NoLimit) (hg : s₁.gens = #[])
    (ha : s₁.heap.get? a = some { cls := .type "list", data := .seq vs.toArray }) (hi : IntsAre vs ns) (hl : ns.length ≤ sizeLine) (hr : Room k callerA)
    (F : ∀ base : Heap, K.In base → base.Ns mainGlobals mg → FnOk P w K mg base CX k fa fd [x] sp) (hbind : ∀ (s : Shared) (u : Value), BindsTo s fd ⟨[u], []⟩ [(x, u)])
    (hsp : ∀ H : Hp, Only H → SqL K H a (ns.map V.int) → sp [.ref a] H (fun v _ => v = .bl true) fun _ _ _ => False)
    (hCX : ∀ H e s', CX [] H s₁ (fun _ _ _ => False) e s' → False) :
    codeAny (model P w) callerA (.call (.ref fa) ⟨[.ref a], []⟩) (fun r s' => r = .ok (.ret (.bool true)) ∧ OldK s₁.heap s'.heap ∧ s'.os = s₁.os ∧ AllBare s'.gens) s₁ := by
  have rv := vals_ints hi
  have lenV := hi.length
  -- from an abstract heap in which nothing but the script may be tracked
  have core : ∀ H : Hp, Only H → SqL K H a (ns.map V.int) → HOk P w H s₁.heap → (∀ b, H b ≠ none → b = a) → (H a ≠ none → K.lookup a = none) →
      codeAny (model P w) callerA (.call (.ref fa) ⟨[.ref a], []⟩) (fun r s' => r = .ok (.ret (.bool true)) ∧ OldK s₁.heap s'.heap ∧ s'.os = s₁.os ∧ AllBare s'.gens) s₁ := by
    intro H hO hS hok hA hK
    have base_of : ∀ {b : Addr} {o : Obj}, s₁.heap.get? b = some o → H b = none → (hidT s₁.heap H).get? b = some o := fun e n => hidT_get e n
    have noA : ∀ {b : Addr} {o : Obj} {es : Array DictEntry} {ep : Nat}, s₁.heap.get? b = some o → o.data = .dict es ep → H b = none := fun {b o es ep} e d => by
      cases q : H b with
      | none => rfl
      | some u =>
        have e' : b = a := hA b (by rw [q]; simp)
        subst e'
        rw [ha] at e; cases e
        have d' : Data.seq vs.toArray _ = Data.dict es ep := d
        cases d'
    have nsK : ∀ {b : Addr} {m : Str → Option Value}, s₁.heap.Ns b m → (hidT s₁.heap H).Ns b m := fun {b m} ⟨o, es, ep, e, d, r⟩ => ⟨o, es, ep, base_of e (noA e d), d, r⟩
    have hKb : K.In (hidT s₁.heap H) := fun b o e => base_of (KX b o e) (by
      cases q : H b with
      | none => rfl
      | some u =>
        have e' : b = a := hA b (by rw [q]; simp)
        subst e'
        rw [hK (by rw [q]; simp)] at e; cases e)
    have hM : Mod K mg (hidT s₁.heap H) := ⟨hKb, nsK hns, ⟨mb, nsK hb, hbb⟩, let ⟨mc, h1, h2⟩ := hlim; ⟨mc, nsK h1, h2⟩⟩
    have e0 : Env0 P w K mg (hidT s₁.heap H) callerA [] s₁ H := ⟨rfl, hM, fun b o e => of_hidT e, Nat.le_of_eq (hidT_size _ _), trivial, fun b hb => absurd (show b ∈ ([] : List Addr) from hb) (by simp), hok, .of_eq hg⟩
    refine codeAny_mono ((F _ hKb (nsK hns)).run callerA [] s₁ H ⟨[.ref a], []⟩ [.ref a] [.ref a] _ _ hr e0 (hbind s₁ (.ref a)) (.cons rfl .nil) (hsp H hO hS)) fun r s' h => ?_
    cases r with
    | error e => exact (hCX H e s' h).elim
    | ok fl =>
      cases fl with
      | next => exact False.elim h
      | brk => exact False.elim h
      | cont => exact False.elim h
      | ret u =>
        obtain ⟨v, H', os, bare, un, hok', r', q⟩ := h
        have q' : v = .bl true := q
        subst q'
        obtain rfl : u = Value.bool true := r'
        refine ⟨rfl, OldK.of_keep fun b o e => ?_, os, bare⟩
        cases q : H b with
        | none => exact un.keep b o e q (by intro z; exact absurd (show b ∈ ([] : List Addr) from z) (by simp)) (by simp)
        | some u =>
          rcases hO b with z | ⟨ob, xs, z⟩
          · rw [q] at z; cases z
          · have z2 := un.frzs b ob _ z
            obtain ⟨e1, _⟩ := hok b _ z
            obtain ⟨e2, _⟩ := hok' b _ z2
            rw [e] at e1; cases e1
            exact e2
  cases hk : K.lookup a with
  | some o =>
    -- the script is one of the module's own objects
    have e := KX a o hk
    rw [ha] at e
    cases e
    refine core (fun _ => none) (fun _ => .inl rfl) (.inr ⟨_, vs.toArray, _, hk, rfl, rfl, rfl, by rw [List.size_toArray, lenV]; exact hl, by simpa using rv⟩) (fun b u z => by have z' : (none : Option HO) = some u := z; cases z') (fun b z => absurd rfl z) fun z => absurd rfl z
  | none =>
    refine core (fun b => if b = a then some (.frz { cls := .type "list", data := .seq vs.toArray } (.lst (ns.map V.int))) else none) (fun b => ?_) (.inl (.inr ⟨{ cls := .type "list", data := .seq vs.toArray }, if_pos rfl⟩)) (fun b u z => ?_) (fun b z => ?_) fun _ => hk
    · by_cases hb : b = a
      · exact .inr ⟨_, _, if_pos hb⟩
      · exact .inl (if_neg hb)
    · by_cases hb : b = a
      · have z' := (if_pos hb).symm.trans z
        cases z'
        subst hb
        exact ⟨ha, by rw [List.length_map]; exact hl, vs, _, rv, ha⟩
      · have z' := (if_neg hb).symm.trans z
        cases z'
    · by_cases hb : b = a
      · exact hb
      · exact absurd (if_neg hb) z
end L2

namespace L2
open PySem PySem.Spec PyProof.Rows

abbrev KOf {K : PySem.W.Frag} {h : Heap} (_ : K.In h) : PySem.W.Frag := K

/-- the goal that k_head leaves (case hc), from the law's promise. F gives the function object fd (K's own) once, then the promise over every base -/
theorem walk_of {l : PySem.W.OpenLaw} {n k : Nat} {q : Program} {loose : List Str} {XP : (Str → Option Value) → Heap → Prop} {YP : World → Heap → Prop} {d : DefRec} {K : Params → PySem.W.Frag} {CX : World → CXT} {sp : World → Sp} {x : Str}
    (hn : l.most = some n) (hn2 : n ≤ sizeLine) (hdf : d.params.defaults = []) (hr : Room k callerA)
    (hY : ∀ (w : World) (h : Heap), YP w h → (K w.params).In h)
    (F : ∀ (w : World) (mg : Str → Option Value) (fa : Addr) (h : Heap), (K w.params).In h → h.Ns mainGlobals mg → mg d.name = some (.ref fa) →
      ∃ fd : FuncData, (∀ (s : Shared) (u : Value), BindsTo s fd ⟨[u], []⟩ [(x, u)]) ∧
        ∀ base : Heap, (K w.params).In base → base.Ns mainGlobals mg → FnOk l.prog w (K w.params) mg base (CX w) k fa fd [x] (sp w))
    (hsp : ∀ (w : World) (H : Hp) (a : Addr) (ns : List Int), ns.length ≤ n → Only H → SqL (K w.params) H a (ns.map V.int) → sp w [.ref a] H (fun v _ => v = .bl true) fun _ _ _ => False)
    (hCX : ∀ (w : World) (H : Hp) (s : Shared) (e : Value) (s' : Shared), CX w [] H s (fun _ _ _ => False) e s' → False) :
    PySem.W.WalkO q loose XP YP l.row.toRowW d [] (fun f vs => PySem.call f vs) := by
  refine Att.attach_call hn hdf fun w s₀ s₁ mg mb fa o pm cd doc a vs ns G Y ho hd hcd hmg hobj hints hlen hg => ?_
  have KX := hY w _ Y
  obtain ⟨fd, hb, hF⟩ := F w mg fa _ KX G.T.g hmg
  exact law_call KX G.T.g G.T.b G.T.builtins G.T.nolimit hg hobj hints (Nat.le_trans hlen hn2) hr hF hb (fun H hO hS => hsp w H a ns hlen hO hS) fun H e s' => hCX w H s₁ e s'
/-- the same where the promise hangs on the written part alone: (sp := My.sp_law), no hole under a binder -/
theorem walk_ofK {l : PySem.W.OpenLaw} {n k : Nat} {q : Program} {loose : List Str} {XP : (Str → Option Value) → Heap → Prop} {YP : World → Heap → Prop} {d : DefRec} {K : Params → PySem.W.Frag} {CX : CXT} {sp : PySem.W.Frag → Sp} {x : Str}
    (hn : l.most = some n) (hn2 : n ≤ sizeLine) (hdf : d.params.defaults = []) (hr : Room k callerA)
    (hY : ∀ (w : World) (h : Heap), YP w h → (K w.params).In h)
    (F : ∀ (w : World) (mg : Str → Option Value) (fa : Addr) (h : Heap), (K w.params).In h → h.Ns mainGlobals mg → mg d.name = some (.ref fa) →
      ∃ fd : FuncData, (∀ (s : Shared) (u : Value), BindsTo s fd ⟨[u], []⟩ [(x, u)]) ∧
        ∀ base : Heap, (K w.params).In base → base.Ns mainGlobals mg → FnOk l.prog w (K w.params) mg base CX k fa fd [x] (sp (K w.params)))
    (hsp : ∀ (K : PySem.W.Frag) (H : Hp) (a : Addr) (ns : List Int), ns.length ≤ n → Only H → SqL K H a (ns.map V.int) → sp K [.ref a] H (fun v _ => v = .bl true) fun _ _ _ => False)
    (hCX : ∀ (H : Hp) (s : Shared) (e : Value) (s' : Shared), CX [] H s (fun _ _ _ => False) e s' → False) :
    PySem.W.WalkO q loose XP YP l.row.toRowW d [] (fun f vs => PySem.call f vs) :=
  walk_of (K := K) (CX := fun _ => CX) (sp := fun w => sp (K w.params)) hn hn2 hdf hr hY F (fun w H a ns h1 h2 h3 => hsp (K w.params) H a ns h1 h2 h3) fun _ H s e s' => hCX H s e s'
end L2

/- THE LAST THEOREM (shape; LID, My.* are yours):
   My.Adr: a structure of the addresses that your layer names (classes, functions); My.Txt K t: a structure (Prop) of the equations over K;
   My.txt_mk : {K} {implicit addresses ..} (e1 : nsIn K mainGlobals "law" = some (some (.ref f))) (e2 : K.lookup f = some ⟨oc, od, .func (fnOf "law" "law" params body scope dV kV doc pm an cdv ct), sl⟩) (e3 : codeIn K cdv "law" = true) .. : ∃ t, My.Txt K t

set_option maxRecDepth 100000 in
set_option maxHeartbeats 0 in
theorem PySem.Challenge.cw_LID_holds : PySem.Challenge.rw_LID.Holds := by
  w_on; o_law; k_head; (case hw => w_witness2)
  k_fill
  refine L2.walk_of (l := PySem.Challenge.rw_LID) (n := 63) (k := 40) (x := "script") (CX := fun w => ..) (sp := fun _ => My.sp_law) rfl (by decide) rfl ⟨rfl, by decide, by decide⟩ (fun w h Y => PySem.W.kIn_of Y) ?F ?S ?C
  case F =>
    intro w mg fa h KX G hmg
    have T : ∃ t, My.Txt (L2.KOf KX) t := by
      dsimp only [L2.KOf]                          -- K must stand as «<heap const> w.params» for k_is
      refine' My.txt_mk ?e1 ?e2 ?e3 ..
      (case e1 => PySem.W.k_is)                    -- in the order: a name -> its address -> its object -> its parts
      (case e2 => PySem.W.k_is)
      ..
    obtain ⟨t, T⟩ := T
    have e0 := hmg.symm.trans (PySem.W.mg_of KX G T.law)
    cases e0                                       -- fa is the law's own address
    exact ⟨_, fun s u => .of_eq rfl, fun base kb nb => My.law_fn T kb nb⟩     -- if «.of_eq rfl» comes too early: refine' ⟨_, ?b, fun base kb nb => My.law_fn T kb nb⟩; exact fun s u => .of_eq rfl
  case S => exact fun w H a ns hl hO hS => ..
  case C => exact ..
(the tactic k_is has no namespace: write k_is) -/

/-! SHORT WORDS over the layer: a def of the text, its body, what a loop and a test want. -/
namespace L2
open PySem PySem.Spec PyProof.Rows

/-! ### the text by places -/
/-- the j-th statement of a class's body -/
def inClass (s : Stmt) (j : Nat) : Stmt := match s with
  | .ClassDef _ _ _ body _ _ _ _ _ _ _ => body.getD j (.Pass ⟨0, 0, 0, 0⟩)
  | _ => .Pass ⟨0, 0, 0, 0⟩
def defArgs (s : Stmt) : Arguments := match s with
  | .FunctionDef _ a _ _ _ _ _ _ _ _ => a
  | _ => { posonlyargs := [], args := [], vararg := none, kwonlyargs := [], kw_defaults := [], kwarg := none, defaults := [] }
def defBody (s : Stmt) : List Stmt := match s with
  | .FunctionDef _ _ b _ _ _ _ _ _ _ => b
  | _ => []
def defScope (s : Stmt) : Scope := match s with
  | .FunctionDef _ _ _ _ _ _ sc _ _ _ => sc
  | _ => { kind := .function, names := [], isGenerator := false, isCoroutine := false }

/-! ### no exception leaves a def -/
abbrev CX0 : CXT := fun _ _ _ _ _ _ => False
abbrev E0 : XK := fun _ _ _ => False
theorem pass0 {X : Cx} : Passes CX0 X E0 := fun _ _ _ _ _ _ _ h => h.elim

/-! ### a def (or method) of the text as it stands behind the top -/
structure Fun (K : PySem.W.Frag) (x qual : Str) (st : Stmt) (f : Addr) (fd : FuncData) : Prop where
  ex : ∃ (oc : Value) (od : Option Addr) (kV doc pm : Value) (an : Option Addr) (cdv ct : Value) (osl : Array (Option Value)),
    fd = PySem.W.fnOf x qual (defArgs st) (defBody st) (defScope st) .none kV doc pm an cdv ct ∧ K.lookup f = some ⟨oc, od, .func fd, osl⟩ ∧ PySem.W.codeIn K cdv qual = true
  kp : PySem.W.keepIn K (.ref f) = true
section
variable {P : Program} {w : World} {K : PySem.W.Frag} {mg : Str → Option Value} {base : Heap}
/-- THE RULE for a def: its body as a term of rules, and the reading of that term -/
theorem Fun.ok {x qual : Str} {st : Stmt} {f : Addr} {fd : FuncData} {N ps : List Str} {k : Nat} {sp : Sp} (F : Fun K x qual st f fd) (S : FnScope N ps (defScope st)) (len : ∀ vs H Q E, sp vs H Q E → vs.length = ps.length)
    (hbody : ∀ (cdv : Value) (A : Around) (outer : List Env) (s : Shared) (H : Hp) (vs : List V) (Q : VK) (E : XK), Room k (A.deeper (envOfC qual (defScope st) s.heap.objs.size f cdv)) → sp vs H Q E →
      ∃ t, PSs (cxOf CX0 P w K mg base N qual (defScope st) f cdv A outer s H E).nox (defBody st) t ∧ t { nx := fun _ H' => Q .non H', rt := Q } (start N vs) H) : FnOk P w K mg base CX0 (k + 1) f fd ps sp := by
  obtain ⟨oc, od, kV, doc, pm, an, cdv, ct, osl, rfl, lk, hcd⟩ := F.ex
  refine fn_of lk hcd S len fun A outer s H vs Q E hr hsp => ?_
  obtain ⟨t, h, q⟩ := hbody cdv A outer s H vs Q E hr hsp
  exact ⟨t, h.nox, q⟩
/-- how its arguments bind (no defaults): h is «fun _ _ _ _ _ _ us hl => match us, hl with | [_, _], _ => rfl», one _ a parameter -/
theorem Fun.binds {x qual : Str} {st : Stmt} {f : Addr} {fd : FuncData} {ps : List Str} (F : Fun K x qual st f fd)
    (h : ∀ (kV doc pm : Value) (an : Option Addr) (cdv ct : Value) (us : List Value), us.length = ps.length → bindArgs (PySem.W.fnOf x qual (defArgs st) (defBody st) (defScope st) .none kV doc pm an cdv ct) ⟨us, []⟩ = pure (ps.zip us)) : Binds K fd ps [] := by
  obtain ⟨oc, od, kV, doc, pm, an, cdv, ct, osl, rfl, lk, hcd⟩ := F.ex
  exact .all (h kV doc pm an cdv ct)
theorem fun_mk {x qual : Str} {st : Stmt} {f : Addr} {oc : Value} {od an : Option Addr} {osl : Array (Option Value)} {kV doc pm cdv ct : Value} (l : K.lookup f = some ⟨oc, od, .func (PySem.W.fnOf x qual (defArgs st) (defBody st) (defScope st) .none kV doc pm an cdv ct), osl⟩)
    (c : PySem.W.codeIn K cdv qual = true) (k : PySem.W.keepIn K (.ref f) = true) : Fun K x qual st f (PySem.W.fnOf x qual (defArgs st) (defBody st) (defScope st) .none kV doc pm an cdv ct) := ⟨⟨oc, od, kV, doc, pm, an, cdv, ct, osl, rfl, l, c⟩, k⟩
end
theorem hu_of {A : Around} {k : Nat} (hr : Room k A) : A.units + 1 < cLine := Nat.lt_of_le_of_lt (Nat.add_le_add_left (by decide : 1 ≤ 64) _) hr.units
theorem small1000 {n : Nat} (h : n ≤ 1000) : n < sizeLine := Nat.lt_of_le_of_lt h (by decide)

/-! ### expressions in short: the name that stands in the i-th slot -/
section
variable {X : Cx}
theorem pv (i : Nat) {x : Str} {pos : Pos} (hN : X.N[i]? = some x := by rfl) (hv : Vis X.env.scope x := by first | exact Or.inl rfl | exact Or.inr (Or.inl rfl) | exact Or.inr (Or.inr rfl)) (hd : (x == ("__debug__" : Str)) = false := by decide)
    (hcd : (x == ("__classdict__" : Str)) = false := by decide) : PE X (.Name x pos) (tVar i) := pe_var hN hv hd hcd
end

/-! ### tests -/
theorem iteF {A B : Prop} (h : B) : if false = true then A else B := by
  rw [if_neg Bool.false_ne_true]
  exact h
theorem iteT {A B : Prop} (h : A) : if true = true then A else B := by
  rw [if_pos rfl]
  exact h
theorem ite2 {c A B : Prop} [Decidable c] (h1 : c → A) (h2 : ¬ c → B) : if c then A else B := by
  by_cases h : c
  · rw [if_pos h]
    exact h1 h
  · rw [if_neg h]
    exact h2 h
/-! ### heaps -/
/-- all that was tracked is as it was -/
def Same (H H' : Hp) : Prop := ∀ b o, H b = some o → H' b = some o
theorem Same.refl (H : Hp) : Same H H := fun _ _ h => h
theorem Same.trans {H H1 H2 : Hp} (a : Same H H1) (b : Same H1 H2) : Same H H2 := fun c o h => b c o (a c o h)
theorem Same.free {H H' : Hp} (e : Same H H') {l : Addr} (h : H' l = Option.none) : H l = Option.none := by
  cases q : H l with
  | none => rfl
  | some o =>
    rw [e l o q] at h
    cases h
theorem Same.seq {K : PySem.W.Frag} {H H' : Hp} {a : Addr} {xs : List V} (e : Same H H') (h : SqL K H a xs) : SqL K H' a xs := by
  rcases h with (h | ⟨o, h⟩) | h
  · exact .inl (.inl (e _ _ h))
  · exact .inl (.inr ⟨o, e _ _ h⟩)
  · exact .inr h

end L2

namespace L2
open PySem PySem.Spec PyProof.Rows

/-! ### lists of pairs as tables -/
section
variable {κ : Type} [DecidableEq κ]
def valV (kvs : List (κ × V)) (k : κ) : Option V := (kvs.find? fun kv => decide (kv.1 = k)).map (·.2)
/-- in its place, or at the end -/
def putK (kvs : List (κ × V)) (k : κ) (v : V) : List (κ × V) :=
  if (kvs.any fun kv => decide (kv.1 = k)) = true then kvs.map (fun kv => if kv.1 = k then (kv.1, v) else kv) else kvs ++ [(k, v)]
def dropK (kvs : List (κ × V)) (k : κ) : List (κ × V) := kvs.filter fun kv => decide (kv.1 ≠ k)

theorem valV_pos {p : κ × V} {r : List (κ × V)} {k : κ} (e : p.1 = k) : valV (p :: r) k = some p.2 := by simp [valV, List.find?_cons, e]
theorem valV_neg {p : κ × V} {r : List (κ × V)} {k : κ} (e : ¬ p.1 = k) : valV (p :: r) k = valV r k := by simp [valV, List.find?_cons, e]
theorem valV_any (k : κ) : ∀ kvs : List (κ × V), (kvs.any fun kv => decide (kv.1 = k)) = (valV kvs k).isSome
  | [] => rfl
  | p :: r => by
    rw [List.any_cons]
    by_cases e : p.1 = k
    · simp only [valV_pos e, decide_eq_true e, Bool.true_or, Option.isSome_some]
    · rw [valV_neg e, decide_eq_false e, Bool.false_or]; exact valV_any k r
theorem length_putK (kvs : List (κ × V)) (k : κ) (v : V) : (putK kvs k v).length ≤ kvs.length + 1 := by
  unfold putK
  split
  · rw [List.length_map]; omega
  · rw [List.length_append, List.length_cons, List.length_nil]; omega
theorem putK_new {kvs : List (κ × V)} {k : κ} (v : V) (h : valV kvs k = none) : putK kvs k v = kvs ++ [(k, v)] := by
  unfold putK
  rw [valV_any, h]
  exact if_neg (by decide)

theorem RelO.isSome_eq {o : Option V} {u : Option Value} (r : RelO o u) : o.isSome = u.isSome := by
  cases o with
  | none => cases u with
    | none => rfl
    | some _ => exact (show False from r).elim
  | some _ => cases u with
    | none => exact (show False from r).elim
    | some _ => rfl
theorem RelO.getD {o : Option V} {u : Option Value} {d : V} {d' : Value} (r : RelO o u) (rd : RelV d d') : RelV (o.getD d) (u.getD d') := by
  cases o with
  | none => cases u with
    | none => exact rd
    | some _ => exact (show False from r).elim
  | some _ => cases u with
    | none => exact (show False from r).elim
    | some _ => exact r

/-- raw tables of the same keys -/
theorem KV.val {kvs : List (κ × V)} {vs : List (κ × Value)} (r : KV kvs vs) (k : κ) : RelO (valV kvs k) (valueAt vs k) := by
  unfold KV at r
  induction r with
  | nil => exact True.intro
  | @cons p q ps qs h t ih =>
    obtain ⟨h1, h2⟩ := h
    by_cases e : p.1 = k
    · have e' : q.1 = k := h1.symm.trans e
      have b : valueAt (q :: qs) k = some q.2 := by simp [valueAt, List.find?_cons, e']
      rw [valV_pos e, b]; exact h2
    · have e' : ¬ q.1 = k := fun z => e (h1.trans z)
      have b : valueAt (q :: qs) k = valueAt qs k := by simp [valueAt, List.find?_cons, e']
      rw [valV_neg e, b]; exact ih
theorem KV.any {kvs : List (κ × V)} {vs : List (κ × Value)} (r : KV kvs vs) (k : κ) : (kvs.any fun kv => decide (kv.1 = k)) = vs.any fun kv => decide (kv.1 = k) := by
  unfold KV at r
  induction r with
  | nil => rfl
  | cons h t ih => rw [List.any_cons, List.any_cons, ih, h.1]
theorem KV.repl {kvs : List (κ × V)} {vs : List (κ × Value)} (r : KV kvs vs) (k : κ) {y : V} {u : Value} (ry : RelV y u) :
    KV (kvs.map fun kv => if kv.1 = k then (kv.1, y) else kv) (vs.map fun kv => if kv.1 = k then (kv.1, u) else kv) := by
  unfold KV at r ⊢
  induction r with
  | nil => exact .nil
  | @cons p q ps qs h t ih =>
    rw [List.map_cons, List.map_cons]
    refine .cons ?_ ih
    obtain ⟨h1, h2⟩ := h
    by_cases e : p.1 = k
    · rw [if_pos e, if_pos (h1.symm.trans e)]; exact ⟨h1, ry⟩
    · rw [if_neg e, if_neg (fun z => e (h1.trans z))]; exact ⟨h1, h2⟩
theorem KV.put {kvs : List (κ × V)} {vs : List (κ × Value)} (r : KV kvs vs) (k : κ) {y : V} {u : Value} (ry : RelV y u) : KV (putK kvs k y) (stored vs k u) := by
  unfold putK stored
  rw [r.any k]
  by_cases e : (vs.any fun kv => decide (kv.1 = k)) = true
  · rw [if_pos e, if_pos e]; exact r.repl k ry
  · rw [if_neg e, if_neg e]; exact Paired.snoc r ⟨rfl, ry⟩
theorem KV.drop {kvs : List (κ × V)} {vs : List (κ × Value)} (r : KV kvs vs) (k : κ) : KV (dropK kvs k) (without vs k) := by
  unfold KV at r ⊢
  unfold dropK without
  induction r with
  | nil => exact .nil
  | @cons p q ps qs h t ih =>
    obtain ⟨h1, h2⟩ := h
    rw [List.filter_cons, List.filter_cons]
    by_cases e : p.1 = k
    · have a : ¬ decide (p.1 ≠ k) = true := by simp [e]
      have b : ¬ decide (q.1 ≠ k) = true := by simp [h1.symm.trans e]
      rw [if_neg a, if_neg b]; exact ih
    · have e' : ¬ q.1 = k := fun z => e (h1.trans z)
      have a : decide (p.1 ≠ k) = true := by simp [e]
      have b : decide (q.1 ≠ k) = true := by simp [e']
      rw [if_pos a, if_pos b]; exact .cons ⟨h1, h2⟩ ih
theorem KV.keys {kvs : List (κ × V)} {vs : List (κ × Value)} (r : KV kvs vs) : kvs.map (·.1) = vs.map (·.1) := by
  unfold KV at r
  induction r with
  | nil => rfl
  | cons h t ih => rw [List.map_cons, List.map_cons, ih, h.1]
theorem KV.length {kvs : List (κ × V)} {vs : List (κ × Value)} (r : KV kvs vs) : kvs.length = vs.length := Paired.length r
end


/-! ### a tracked dict, its keys ints and texts or tuples of these -/
theorem kV_is {P : Program} {w : World} {k : Key} {u : Value} (r : RelV (kV k) u) : (mixKind P w).is k u = true := by
  cases k with
  | inl i => obtain ⟨t, e⟩ := (show ∃ t, u = Value.int i t from r); subst e; exact mixKind_int P w i t
  | inr x => obtain ⟨t, e⟩ := (show ∃ t, u = Value.str x t from r); subst e; exact mixKind_str P w x t
theorem items_are {P : Program} {w : World} : ∀ {ks : List Key} {us : List Value}, Vals (ks.map kV) us → ItemsAre (mixKind P w) ks us
  | [], _, r => by rw [List.map_nil] at r; cases r; exact .nil
  | k :: ks, _, r => by
    rw [List.map_cons] at r
    cases r with
    | cons h t => exact .cons (kV_is h) (items_are t)

/-- raw entries of a dict with tuple keys -/
abbrev KT (H : Hp) : List (List Key × V) → List (List Key × Addr × Value) → Prop := Paired fun p q => p.1 = q.1 ∧ H q.2.1 = some (.tup (p.1.map kV)) ∧ RelV p.2 q.2.2
theorem KT.val {H : Hp} {kvs : List (List Key × V)} {xs : List (List Key × Addr × Value)} (r : KT H kvs xs) (k : List Key) : RelO (valV kvs k) ((atKey xs k).map (·.2)) := by
  induction r with
  | nil => exact True.intro
  | @cons p q ps qs h t ih =>
    obtain ⟨h1, _, h2⟩ := h
    by_cases e : p.1 = k
    · have e' : q.1 = k := h1.symm.trans e
      have b : atKey (q :: qs) k = some q.2 := by simp [atKey, List.find?_cons, e']
      rw [valV_pos e, b]; exact h2
    · have e' : ¬ q.1 = k := fun z => e (h1.trans z)
      have b : atKey (q :: qs) k = atKey qs k := by simp [atKey, List.find?_cons, e']
      rw [valV_neg e, b]; exact ih
theorem KT.repl {H : Hp} {kvs : List (List Key × V)} {xs : List (List Key × Addr × Value)} (r : KT H kvs xs) (k : List Key) {y : V} {u : Value} (ry : RelV y u) :
    KT H (kvs.map fun kv => if kv.1 = k then (kv.1, y) else kv) (xs.map (putAt k u)) := by
  induction r with
  | nil => exact .nil
  | @cons p q ps qs h t ih =>
    rw [List.map_cons, List.map_cons]
    refine .cons ?_ ih
    obtain ⟨h1, h2, h3⟩ := h
    unfold putAt
    by_cases e : p.1 = k
    · rw [if_pos e, if_pos (h1.symm.trans e)]; exact ⟨h1, h2, ry⟩
    · rw [if_neg e, if_neg (fun z => e (h1.trans z))]; exact ⟨h1, h2, h3⟩
theorem KT.put {H : Hp} {kvs : List (List Key × V)} {xs : List (List Key × Addr × Value)} (r : KT H kvs xs) (k : List Key) {b : Addr} {y : V} {u : Value} (hb : H b = some (.tup (k.map kV))) (ry : RelV y u) :
    KT H (putK kvs k y) (storedH xs k b u) := by
  have e : (kvs.any fun kv => decide (kv.1 = k)) = (atKey xs k).isSome := by
    rw [valV_any, (r.val k).isSome_eq, Option.isSome_map]
  unfold putK storedH
  rw [e]
  by_cases q : (atKey xs k).isSome = true
  · rw [if_pos q, if_pos q]; exact r.repl k ry
  · rw [if_neg q, if_neg q]; exact Paired.snoc r ⟨rfl, hb, ry⟩
theorem KT.keeps {H H' : Hp} {kvs : List (List Key × V)} {xs : List (List Key × Addr × Value)} (r : KT H kvs xs) (ht : ∀ b ys, H b = some (.tup ys) → H' b = some (.tup ys)) : KT H' kvs xs :=
  Paired.mapP r fun _ _ z => ⟨z.1, ht _ _ z.2.1, z.2.2⟩

section
variable {P : Program} {w : World} {H : Hp} {h : Heap} {a : Addr}
theorem rd_of {u : HO} (ok : HOk P w H h) (e : Rd H a u) : ObjOk P w H h a u := e.ok ok
theorem dk_rd {kvs : List (Key × V)} (ok : HOk P w H h) (e : Rd H a (.dK kvs)) : kvs.length ≤ sizeLine ∧ (a == sysModules) = false ∧ ∃ vs, KV kvs vs ∧ h.DictOf (mixKind P w) a vs :=
  show ObjOk P w H h a (.dK kvs) from rd_of ok e
theorem dk_of {kvs : List (Key × V)} (ok : HOk P w H h) (e : H a = some (.dK kvs)) : kvs.length ≤ sizeLine ∧ (a == sysModules) = false ∧ ∃ vs, KV kvs vs ∧ h.DictOf (mixKind P w) a vs := dk_rd ok (.inl e)
/-- a tracked tuple of ints and texts is a key -/
theorem key_of {ks : List Key} (ok : HOk P w H h) (e : H a = some (.tup (ks.map kV))) : (tupleKind (mixKind P w)).is h ks a := by
  obtain ⟨_, its, r, o, h1, h2, n, h3⟩ := (show ObjOk P w H h a (.tup (ks.map kV)) from ok a _ e)
  exact ⟨o, its.toArray, n, h1, h2, h3, by simpa using items_are r⟩
theorem dt_rd {kvs : List (List Key × V)} (ok : HOk P w H h) (e : Rd H a (.dT kvs)) : kvs.length ≤ sizeLine ∧ (a == sysModules) = false ∧
    ∃ xs, KT H kvs xs ∧ h.DictOfH (tupleKind (mixKind P w)) a xs := by
  obtain ⟨z, y, xs, r, o, es, ep, h1, h2, h3, h4, h5⟩ := (show ObjOk P w H h a (.dT kvs) from rd_of ok e)
  refine ⟨z, y, xs, r, o, es, ep, h1, h2, h3, h4, fun x hx => ?_, h5⟩
  have all : ∀ {l : List (List Key × V)} {m : List (List Key × Addr × Value)}, KT H l m → ∀ x ∈ m, (tupleKind (mixKind P w)).is h x.1 x.2.1 := by
    intro l m q
    induction q with
    | nil => intro x hx; exact nomatch hx
    | @cons p q ps qs hq t ih =>
      intro x hx
      rcases List.mem_cons.mp hx with e | hx
      · subst e
        exact key_of ok (by rw [← hq.1]; exact hq.2.1)
      · exact ih x hx
  exact all r x hx
theorem dt_of {kvs : List (List Key × V)} (ok : HOk P w H h) (e : H a = some (.dT kvs)) : kvs.length ≤ sizeLine ∧ (a == sysModules) = false ∧
    ∃ xs, KT H kvs xs ∧ h.DictOfH (tupleKind (mixKind P w)) a xs := dt_rd ok (.inl e)
end

/-- what the dict at a holds at the key y -/
def DGet (H : Hp) (a : Addr) (y : V) (r : Option V) : Prop :=
  (∃ kvs k, Rd H a (.dK kvs) ∧ y = kV k ∧ r = valV kvs k) ∨ ∃ kvs k b, Rd H a (.dT kvs) ∧ y = .ref b ∧ H b = some (.tup (k.map kV)) ∧ r = valV kvs k
/-- the heap behind a[y] = v -/
def DPut (H : Hp) (a : Addr) (y v : V) (H' : Hp) : Prop :=
  (∃ kvs k, H a = some (.dK kvs) ∧ y = kV k ∧ kvs.length < sizeLine ∧ H' = upd H a (.dK (putK kvs k v))) ∨
  ∃ kvs k b, H a = some (.dT kvs) ∧ y = .ref b ∧ H b = some (.tup (k.map kV)) ∧ kvs.length < sizeLine ∧ H' = upd H a (.dT (putK kvs k v))
theorem DGet.k {H : Hp} {a : Addr} {kvs : List (Key × V)} {k : Key} (e : H a = some (.dK kvs)) : DGet H a (kV k) (valV kvs k) := .inl ⟨kvs, k, .inl e, rfl, rfl⟩
theorem DGet.t {H : Hp} {a b : Addr} {kvs : List (List Key × V)} {k : List Key} (e : H a = some (.dT kvs)) (eb : H b = some (.tup (k.map kV))) : DGet H a (.ref b) (valV kvs k) := .inr ⟨kvs, k, b, .inl e, rfl, eb, rfl⟩
theorem DPut.k {H : Hp} {a : Addr} {kvs : List (Key × V)} {k : Key} {v : V} (e : H a = some (.dK kvs)) (hl : kvs.length < sizeLine) : DPut H a (kV k) v (upd H a (.dK (putK kvs k v))) := .inl ⟨kvs, k, e, rfl, hl, rfl⟩
theorem DPut.t {H : Hp} {a b : Addr} {kvs : List (List Key × V)} {k : List Key} {v : V} (e : H a = some (.dT kvs)) (eb : H b = some (.tup (k.map kV))) (hl : kvs.length < sizeLine) :
    DPut H a (.ref b) v (upd H a (.dT (putK kvs k v))) := .inr ⟨kvs, k, b, e, rfl, eb, hl, rfl⟩


section
variable {X : Cx} {pins : List (Addr × Obj)} {σ : St} {H : Hp} {s : Shared} {a : Addr} {y v : V} {u r : Value} {o : Option V} {A : Around} {E : Value → Shared → Prop}

theorem Inv.big (I : Inv X pins σ H s) : sysModules < s.heap.objs.size := by
  have h : mainGlobals < s.heap.objs.size := (I.mod.glob.keeps I.bk).lt
  exact Nat.lt_trans (by decide) h

/-- y in d -/
theorem d_in {Q : Value → Shared → Prop} (hu : A.units + 1 < cLine) (I : Inv X pins σ H s) (g : DGet H a y o) (ry : RelV y u) (h : ∀ s', Inv X pins σ H s' → Q (.bool o.isSome) s') :
    wpAny (model X.prog X.w) A (compareOp .In u (.ref a)) Q E s := by
  rcases g with ⟨kvs, k, e, ey, l⟩ | ⟨kvs, k, b, e, ey, eb, l⟩
  · subst ey
    obtain ⟨z, hd, vs, rel, dd⟩ := dk_rd I.hok e
    refine wpAny_in_of (kV_is ry) hd dd.mapOf ?_
    rw [← (rel.val k).isSome_eq, ← l]
    exact h _ (I.tok _)
  · subst ey
    cases (show u = Value.ref b from ry)
    obtain ⟨z, hd, xs, rel, dd⟩ := dt_rd I.hok e
    refine wpAny_in_heap (tupleKind_room_in1 hu) (key_of I.hok eb) hd dd ?_
    have q := (rel.val k).isSome_eq
    rw [Option.isSome_map] at q
    rw [← q, ← l]
    exact h _ (I.tok _)
/-- a dict's object is replaced -/
theorem d_write {h' : Heap} {t' : Nat} {ob : HO} (I : Inv X pins σ H s) (mu : Mut (H a)) (hs : Heap.SameBut a s.heap h') (he : ∃ q, h'.get? a = some q) (new : ObjOk X.prog X.w (upd H a ob) h' a ob) :
    Inv X pins σ (upd H a ob) { s with heap := h', toks := t' } :=
  I.write (x := a) (e := a) mu (.inl rfl) (fun b q hb z => (hs.2 b hb).trans z) he new
theorem dk_new {P : Program} {w : World} {H' : Hp} {h' : Heap} {kvs : List (Key × V)} {vs : List (Key × Value)} (z : kvs.length ≤ sizeLine) (hd : (a == sysModules) = false) (rel : KV kvs vs) (dd : h'.DictOf (mixKind P w) a vs) :
    ObjOk P w H' h' a (.dK kvs) := ⟨z, hd, vs, rel, dd⟩
/-- d[y] = v -/
theorem d_setItem {H' : Hp} {Q : Unit → Shared → Prop} (hu : A.units + 1 < cLine) (I : Inv X pins σ H s) (g : DPut H a y v H') (ry : RelV y u) (rv : RelV v r) (h : ∀ s', Inv X pins σ H' s' → Q () s') :
    wpAny (model X.prog X.w) A (setItem (.ref a) u r) Q E s := by
  rcases g with ⟨kvs, k, e, ey, l, eH⟩ | ⟨kvs, k, b, e, ey, eb, l, eH⟩
  · subst ey eH
    obtain ⟨z, hd, vs, rel, dd⟩ := dk_of I.hok e
    have hz : vs.length ≤ sizeLine := by rw [← rel.length]; exact z
    have hl : (putK kvs k v).length ≤ sizeLine := by have := length_putK kvs k v; omega
    refine wpAny_setItem_pairs (hsz := hz) (kV_is ry) dd fun h' dd' hs => h _ ?_
    have he : ∃ q, h'.get? a = some q := let ⟨q, _, _, hq, _⟩ := dd'; ⟨q, hq⟩
    exact d_write I (by rw [e]; exact True.intro) hs he (dk_new hl hd (rel.put k rv) dd')
  · subst ey eH
    cases (show u = Value.ref b from ry)
    obtain ⟨z, hd, xs, rel, dd⟩ := dt_of I.hok e
    have hz : xs.length ≤ sizeLine := by rw [← Paired.length rel]; exact z
    have hl : (putK kvs k v).length ≤ sizeLine := by have := length_putK kvs k v; omega
    refine wpAny_setItem_heap (hsz := hz) (tupleKind_room_in1 hu) (key_of I.hok eb) dd fun h' dd' hs => h _ ?_
    obtain ⟨q, es, ep, hq, h2, h3, h4, _, h5⟩ := dd'
    refine d_write I (by rw [e]; exact True.intro) hs ⟨q, hq⟩ ⟨hl, hd, _, (rel.put k eb rv).keeps fun c ys ec => ?_, q, es, ep, hq, h2, h3, h4, h5⟩
    rw [upd_ne (ne_of ec e (fun z => nomatch z))]
    exact ec
end

section
variable {X : Cx} {pins : List (Addr × Obj)} {σ : St} {H : Hp} {s : Shared} {a : Addr} {kvs : List (Key × V)} {k : Key} {u : Value} {A : Around} {E : Value → Shared → Prop}
end


/-! ### readings and rules -/
/-- y in d, y not in d -/
def tDIn (ty td : TE) : TE := fun σ H Q => ty σ H fun y H1 => td σ H1 fun x H2 => ∃ a o, x = .ref a ∧ DGet H2 a y o ∧ Q (.bl o.isSome) H2
/-- d[y] = v -/
def sDPut (td ty tv : TE) : TS := fun D σ H => tv σ H fun v H1 => td σ H1 fun x H2 => ty σ H2 fun y H3 => ∃ a H4, x = .ref a ∧ DPut H3 a y v H4 ∧ D.nx σ H4
section
variable {X : Cx} {o i e value : Expr} {pos pos' tpos : Pos} {td ty tv : TE}
theorem pc_din (hu : X.A.units + 1 < cLine) (hi : PE X i ty) (ho : PE X o td) : PC X .In i o (tDIn ty td) := by
  intro pins s σ H Q I h
  refine thn (hi pins s σ H _ I h) fun iv s1 ⟨y, H1, I1, ry, q1⟩ => thn (ho pins s1 σ H1 _ I1 q1) fun u s2 ⟨x, H2, I2, rx, a, ov, ex, g, q2⟩ => ?_
  subst ex
  obtain rfl : u = Value.ref a := rx
  exact d_in hu I2 g ry fun s3 I3 => ⟨.bl ov.isSome, H2, I3, rfl, q2⟩
theorem ps_dput (hu : X.A.units + 1 < cLine) (ho : PE X o td) (hi : PE X i ty) (hv : PE X value tv) (hs : swapsWith value (some (.Subscript o i pos')) pos.line X.env = pure false) :
    PS X (.Assign [.Subscript o i pos'] value pos) (sDPut td ty tv) := by
  intro pins s σ H D I h
  refine wpAny_Assign_Subscript (thn (hv pins s σ H _ I h) fun r s1 ⟨v, H1, I1, rv, q1⟩ => thn (ho pins s1 σ H1 _ I1 q1) fun u s2 ⟨x, H2, I2, rx, q2⟩ => thn (hi pins s2 σ H2 _ I2 q2) fun iv s3 ⟨y, H3, I3, ry, a, H4, ex, g, q3⟩ => ?_) hs
  subst ex
  obtain rfl : u = Value.ref a := rx
  exact d_setItem hu I3 g ry rv fun s4 I4 => ⟨σ, H4, I4, q3⟩
end


/-! ### displays -/
theorem dk_empty {P : Program} {w : World} {H : Hp} (h : Heap) (hb : sysModules < h.objs.size) : ObjOk P w H (h.push { cls := .type "dict", data := .dict #[] }) h.objs.size (.dK []) :=
  ⟨Nat.zero_le _, beq_eq_false_iff_ne.mpr (Ne.symm (Nat.ne_of_lt hb)), [], .nil, Heap.DictOf.new h⟩
/-- {}, to be a dict of the kind that is wanted -/
def tDNewK : TE := fun _ H Q => ∀ p, H p = none → Q (.ref p) (upd H p (.dK []))
section
variable {X : Cx} {pos : Pos}
theorem pe_dnewK : PE X (.Dict [] [] pos) tDNewK := fun pins s σ H Q I h =>
  wpAny_Dict_empty ⟨.ref s.heap.objs.size, _, I.laid (a := s.heap.objs.size) (o := .dK []) (t' := s.toks) (fun _ _ q => Heap.get?_push_of_some _ q) (Nat.le_refl _) (dk_empty s.heap I.big), rfl, h _ (I.hok.fresh (Nat.le_refl _))⟩
end

/-! ### methods -/
/-- a method call o.m(e) of a built-in, with one argument: what must be seen of the text -/
structure M1 (X : Cx) (o : Expr) (m : Str) (apos : Pos) (e : Expr) (cpos : Pos) : Prop where
  base : attributeBase o m X.env (eval o X.env) = eval o X.env
  few : ((backTo cpos (starEach [e] X.env)).all (fun x => !x.1) && (backToKw cpos (keywordEach [] X.env)).all (fun x => x.1.isSome)
    && decide (([e] : List Expr).length + ([] : List Keyword).length + (if ([] : List Keyword).isEmpty then 0 else 1) < 30)) = true
  line : (apos.endLine == cpos.line) = true
  trees : backTo cpos (starEach [e] X.env) = [(false, eval e X.env)]
structure M2 (X : Cx) (o : Expr) (m : Str) (apos : Pos) (e f : Expr) (cpos : Pos) : Prop where
  base : attributeBase o m X.env (eval o X.env) = eval o X.env
  few : ((backTo cpos (starEach [e, f] X.env)).all (fun x => !x.1) && (backToKw cpos (keywordEach [] X.env)).all (fun x => x.1.isSome)
    && decide (([e, f] : List Expr).length + ([] : List Keyword).length + (if ([] : List Keyword).isEmpty then 0 else 1) < 30)) = true
  line : (apos.endLine == cpos.line) = true
  trees : backTo cpos (starEach [e, f] X.env) = [(false, eval e X.env), (false, eval f X.env)]

section
variable {X : Cx} {pins : List (Addr × Obj)} {σ : St} {H : Hp} {s : Shared} {a : Addr} {y d : V} {u r : Value} {o : Option V} {A : Around} {E : Value → Shared → Prop}
end

section
variable {X : Cx} {o e f : Expr} {apos cpos : Pos} {td ty tx : TE}
end

/-! ### dict(d): a copy -/
section
variable {X : Cx} {pins : List (Addr × Obj)} {σ : St} {H : Hp} {s : Shared} {a : Addr} {kvs : List (Key × V)} {A : Around} {E : Value → Shared → Prop}
end


section
variable {X : Cx} {pins : List (Addr × Obj)} {σ : St} {H : Hp} {s : Shared} {a : Addr} {y : V} {u : Value} {A : Around} {E : Value → Shared → Prop}
end
end L2

namespace Att
open PySem PySem.W PySem.Calls PyProof.Rows

/-! ### the script -/



/-! ### the attachment: holds_open's last premise (the goal 'hc' behind k_head) from a wpAny of the law's body -/



/-! ### rules over ANY heap (no ledger) from facts about the written part K: the library's own take a ledger (News) for what they write -/
section
variable {prog : Program} {w : World} {A : Around} {E : Value → Shared → Prop} {s : Shared} {K : Frag}





/-! the whole heap as the ledger: makes every rule that writes through a ledger a rule over any heap -/

end
end Att

namespace L2
open PySem PySem.Spec PyProof.Rows



end L2

namespace L2
open PySem PySem.Spec PyProof.Rows


end L2

/- THE LAST THEOREM (shape; LID, My.* are yours):
   My.Adr: a structure of the addresses that your layer names (classes, functions); My.Txt K t: a structure (Prop) of the equations over K;
   My.txt_mk : {K} {implicit addresses ..} (e1 : nsIn K mainGlobals "law" = some (some (.ref f))) (e2 : K.lookup f = some ⟨oc, od, .func (fnOf "law" "law" params body scope dV kV doc pm an cdv ct), sl⟩) (e3 : codeIn K cdv "law" = true) .. : ∃ t, My.Txt K t

set_option maxRecDepth 100000 in
set_option maxHeartbeats 0 in
(the tactic k_is has no namespace: write k_is) -/

/-! SHORT WORDS over the layer: a def of the text, its body, what a loop and a test want. -/
namespace L2
open PySem PySem.Spec PyProof.Rows

/-! ### the text by places -/

/-! ### no exception leaves a def -/

/-! ### a def (or method) of the text as it stands behind the top -/
section
variable {P : Program} {w : World} {K : PySem.W.Frag} {mg : Str → Option Value} {base : Heap}
end

/-! ### expressions in short: the name that stands in the i-th slot -/
section
variable {X : Cx}
end

/-! ### tests -/

/-! ### heaps -/

/-! ### a dict's pairs: keys that differ -/
section
variable {κ : Type} [DecidableEq κ]
end
end L2

/-! OWN RULES over the layer: comprehensions -/
namespace L2
open PySem PySem.Spec PyProof.Rows

/-- the cells that a comprehension's block sees -/
def clOf (scope : Scope) (env : Env) : List (Str × Addr) :=
  (scope.names.filterMap fun p => if p.2 = NameKind.free then (env.cells.lookup p.1).map fun c => (p.1, c) else none).reverse

theorem lookup_memOf {α : Type} {x : Str} {c : α} : ∀ {l : List (Str × α)}, l.lookup x = some c → (x, c) ∈ l
  | [], h => by simp at h
  | (y, d) :: r, h => by
    rw [List.lookup_cons] at h
    cases e : x == y with
    | true =>
      rw [e] at h
      have h' : d = c := Option.some.inj h
      rw [h', eq_of_beq e]
      exact List.mem_cons_self
    | false =>
      rw [e] at h
      exact List.mem_cons_of_mem _ (lookup_memOf h)
theorem lookup_ofMem {α : Type} {x : Str} {c : α} : ∀ {l : List (Str × α)}, (x, c) ∈ l → ∃ d, l.lookup x = some d
  | [], h => by simp at h
  | (y, d) :: r, h => by
    rw [List.lookup_cons]
    cases e : x == y with
    | true => exact ⟨d, rfl⟩
    | false =>
      rcases List.mem_cons.mp h with z | z
      · have z1 : x = y := congrArg Prod.fst z
        rw [z1, beq_self_eq_true] at e
        cases e
      · exact lookup_ofMem z

theorem mem_clOf {scope : Scope} {env : Env} {x : Str} {c : Addr} : (x, c) ∈ clOf scope env ↔ (x, NameKind.free) ∈ scope.names ∧ env.cells.lookup x = some c := by
  unfold clOf
  rw [List.mem_reverse, List.mem_filterMap]
  constructor
  · rintro ⟨⟨y, k⟩, hm, e⟩
    by_cases hk : k = NameKind.free
    · subst hk
      rw [if_pos rfl] at e
      cases q : env.cells.lookup y with
      | none => rw [q] at e; cases e
      | some d =>
        rw [q] at e
        have e' : (y, d) = (x, c) := Option.some.inj e
        cases e'
        exact ⟨hm, q⟩
    · rw [if_neg hk] at e
      cases e
  · rintro ⟨hm, q⟩
    exact ⟨(x, NameKind.free), hm, by rw [if_pos rfl]; rw [q]; rfl⟩
theorem clOf_env {scope : Scope} {env : Env} {x : Str} {c : Addr} (h : (clOf scope env).lookup x = some c) : env.cells.lookup x = some c := (mem_clOf.mp (lookup_memOf h)).2
theorem clOf_has {scope : Scope} {env : Env} {x : Str} {c : Addr} (hm : (x, NameKind.free) ∈ scope.names) (h : env.cells.lookup x = some c) : (clOf scope env).lookup x = some c := by
  obtain ⟨d, e⟩ := lookup_ofMem (mem_clOf.mpr ⟨hm, h⟩)
  rw [e, ← h]
  exact (clOf_env e).symm

theorem closure_go {env : Env} : ∀ (names : List (Str × NameKind)) (cs : List (Str × Addr)), (∀ p ∈ names, p.2 = .free → ∃ c, env.cells.lookup p.1 = some c) →
    (forIn names cs fun (x : Str × NameKind) (cs : List (Str × Addr)) => (match x with
      | (name, kind) => if (kind == .free) = true then (do let a ← cellOf env name; pure (ForInStep.yield ((name, a) :: cs))) else pure (ForInStep.yield cs) : Sem (ForInStep (List (Str × Addr)))))
      = pure ((names.filterMap fun p => if p.2 = NameKind.free then (env.cells.lookup p.1).map fun c => (p.1, c) else none).reverse ++ cs)
  | [], cs, _ => rfl
  | (n, k) :: r, cs, h => by
    rw [List.forIn_cons]
    have hr : ∀ p ∈ r, p.2 = .free → ∃ c, env.cells.lookup p.1 = some c := fun p hp => h p (List.mem_cons_of_mem _ hp)
    by_cases hk : k = NameKind.free
    · subst hk
      obtain ⟨c, hc⟩ := h (n, .free) List.mem_cons_self rfl
      have e1 : cellOf env n = pure c := by unfold cellOf; rw [show env.cells.lookup n = some c from hc]
      show ((do let a ← cellOf env n; pure (ForInStep.yield ((n, a) :: cs)) : Sem (ForInStep (List (Str × Addr)))) >>= _) = _
      rw [e1]
      simp only [pure_bind]
      rw [closure_go r ((n, c) :: cs) hr, List.filterMap_cons, if_pos rfl, show env.cells.lookup n = some c from hc]
      simp
    · have hb : (k == NameKind.free) = false := by simpa using hk
      show ((if (k == NameKind.free) = true then (do let a ← cellOf env n; pure (ForInStep.yield ((n, a) :: cs))) else pure (ForInStep.yield cs) : Sem (ForInStep (List (Str × Addr)))) >>= _) = _
      rw [hb, if_neg Bool.false_ne_true]
      simp only [pure_bind]
      rw [closure_go r cs hr, List.filterMap_cons, if_neg hk]
theorem closure_is {scope : Scope} {env : Env} (h : ∀ p ∈ scope.names, p.2 = .free → ∃ c, env.cells.lookup p.1 = some c) : closureFor scope env = pure (clOf scope env) := by
  have e := closure_go scope.names [] h
  rw [List.append_nil] at e
  unfold closureFor clOf
  simp only [bind_pure]
  exact e

theorem lookup_relabel {env : Env} {x : Str} : ∀ {names : List (Str × NameKind)} {k : NameKind},
    (names.map fun (n, k) => if (k == NameKind.free && env.scope.kind == .function && env.kindOf n == some .cell) then (n, NameKind.cell) else (n, k)).lookup x = some k →
      ∃ k', (x, k') ∈ names ∧ (k' = k ∨ (k' = .free ∧ k = .cell))
  | [], _, h => by simp at h
  | (n, j) :: r, k, h => by
    by_cases hc : (j == NameKind.free && env.scope.kind == .function && env.kindOf n == some .cell) = true
    · rw [List.map_cons] at h
      have h' : List.lookup x ((if (j == NameKind.free && env.scope.kind == .function && env.kindOf n == some .cell) = true then (n, NameKind.cell) else (n, j)) :: _) = some k := h
      rw [if_pos hc, List.lookup_cons] at h'
      cases e : x == n with
      | true =>
        rw [e] at h'
        have h2 : NameKind.cell = k := Option.some.inj h'
        have hj : j = NameKind.free := by
          have := hc
          rw [Bool.and_eq_true, Bool.and_eq_true] at this
          exact eq_of_beq this.1.1
        exact ⟨j, by rw [eq_of_beq e]; exact List.mem_cons_self, .inr ⟨hj, h2.symm⟩⟩
      | false =>
        rw [e] at h'
        obtain ⟨k', hm, q⟩ := lookup_relabel h'
        exact ⟨k', List.mem_cons_of_mem _ hm, q⟩
    · rw [List.map_cons] at h
      have h' : List.lookup x ((if (j == NameKind.free && env.scope.kind == .function && env.kindOf n == some .cell) = true then (n, NameKind.cell) else (n, j)) :: _) = some k := h
      rw [if_neg hc, List.lookup_cons] at h'
      cases e : x == n with
      | true =>
        rw [e] at h'
        exact ⟨j, by rw [eq_of_beq e]; exact List.mem_cons_self, .inl (Option.some.inj h')⟩
      | false =>
        rw [e] at h'
        obtain ⟨k', hm, q⟩ := lookup_relabel h'
        exact ⟨k', List.mem_cons_of_mem _ hm, q⟩

/-- what is asked of a comprehension's own names, over the names N and the scope sc of the def around it: N' the block's names, ix where each stands outside -/
def compOk (N : List Str) (sc scope : Scope) (N' : List Str) (ix : List (Option Nat)) : Bool :=
  scope.kind == .function && scope.names.all (fun y => y.2 != .cell) && scope.names.all (fun y => y.2 != .local || scope.names.lookup y.1 == some .local) &&
  scope.names.all (fun y => y.2 != .free || sc.names.lookup y.1 == some .cell || sc.names.lookup y.1 == some .free) &&
  decide (ix.length = N'.length) && decide N'.Nodup &&
  (N'.zip ix).all fun p => match p.2 with
    | none => scope.names.all fun y => y.1 != p.1 || y.2 == .local
    | some k => N[k]? == some p.1 && scope.names.lookup p.1 == some .free && scope.names.all fun y => y.1 != p.1 || y.2 == .free
structure CompOk (N : List Str) (sc scope : Scope) (N' : List Str) (ix : List (Option Nat)) : Prop where
  kind : scope.kind = .function
  nocell : ∀ y ∈ scope.names, y.2 ≠ .cell
  names : ∀ y ∈ scope.names, y.2 = .local → scope.names.lookup y.1 = some .local
  frees : ∀ y ∈ scope.names, y.2 = .free → sc.names.lookup y.1 = some .cell ∨ sc.names.lookup y.1 = some .free
  len : ix.length = N'.length
  nd : N'.Nodup
  own : ∀ (i : Nat) (x : Str), N'[i]? = some x → ix[i]? = some none → ∀ y ∈ scope.names, y.1 = x → y.2 = .local
  out : ∀ (i : Nat) (x : Str) (k : Nat), N'[i]? = some x → ix[i]? = some (some k) → N[k]? = some x ∧ (x, NameKind.free) ∈ scope.names ∧ ∀ y ∈ scope.names, y.1 = x → y.2 = .free
theorem compOk_is {N : List Str} {sc scope : Scope} {N' : List Str} {ix : List (Option Nat)} (h : compOk N sc scope N' ix = true) : CompOk N sc scope N' ix := by
  unfold compOk at h
  simp only [Bool.and_eq_true, List.all_eq_true, Bool.or_eq_true, bne_iff_ne, beq_iff_eq, decide_eq_true_eq, ne_eq] at h
  obtain ⟨⟨⟨⟨⟨⟨h1, h2⟩, h3⟩, h4⟩, h5⟩, h6⟩, h7⟩ := h
  have zipAt : ∀ {i : Nat} {x : Str} {o : Option Nat}, N'[i]? = some x → ix[i]? = some o → (x, o) ∈ N'.zip ix := fun {i x o} a b => by
    refine List.mem_of_getElem? (i := i) ?_
    rw [List.getElem?_zip_eq_some]
    exact ⟨a, b⟩
  refine ⟨h1, fun y hy => h2 y hy, fun y hy e => ?_, fun y hy e => ?_, h5, h6, fun i x a b y hy e => ?_, fun i x k a b => ?_⟩
  · rcases h3 y hy with z | z
    · exact absurd e z
    · exact z
  · rcases h4 y hy with (z | z) | z
    · exact absurd e z
    · exact .inl z
    · exact .inr z
  · have q := h7 _ (zipAt a b)
    simp only [List.all_eq_true, Bool.or_eq_true, bne_iff_ne, beq_iff_eq, ne_eq] at q
    rcases q y hy with z | z
    · exact absurd e z
    · exact z
  · have q := h7 _ (zipAt a b)
    simp only [Bool.and_eq_true, List.all_eq_true, Bool.or_eq_true, bne_iff_ne, beq_iff_eq, ne_eq] at q
    obtain ⟨⟨q1, q2⟩, q3⟩ := q
    refine ⟨q1, lookup_memOf q2, fun y hy e => ?_⟩
    rcases q3 y hy with z | z
    · exact absurd e z
    · exact z

/-- the block's values at its start: what its free names hold outside -/
def blkSt (ix : List (Option Nat)) (σ : St) : St := ix.map fun o => match o with
  | some k => (σ[k]?).join
  | none => none
/-- the context of a comprehension's block -/
def blk (X : Cx) (scope : Scope) (N' : List Str) (C : Addr) (fp : List Addr) (s₂ : Shared) (H₂ : Hp) : Cx :=
  { X with N := N', s₀ := s₂, H₀ := H₂, env := compEnvC scope (clOf scope X.env) C X.env, outer := X.stack, stack := X.stack, ex := fp, fn := fun _ => false, pn := [], xe := fun _ _ => False }

abbrev lstO (its : List Value) (n : Nat) : Obj := { cls := .type "list", data := .seq its.toArray n }

section
variable {X : Cx} {scope : Scope} {N' : List Str} {ix : List (Option Nat)} {C : Addr} {fp : List Addr} {s₂ : Shared} {H₂ : Hp} {pins : List (Addr × Obj)} {σ : St}

theorem blk_cells (I : Inv X pins σ H₂ s₂) {x : Str} {c : Addr} (h : (clOf scope X.env).lookup x = some c) : c < s₂.heap.objs.size := by
  obtain ⟨v, q⟩ := I.cell x c (clOf_env h)
  exact q.lt
theorem blk_ok (I : Inv X pins σ H₂ s₂) (co : CompOk X.N X.env.scope scope N' ix) (hC : @LE.le Nat _ s₂.heap.objs.size C) (hf : ∀ b ∈ fp, FpOk X pins H₂ b) (hlt : ∀ b ∈ fp, b < s₂.heap.objs.size) : (blk X scope N' C fp s₂ H₂).Ok where
  mod := I.ok.mod
  kind := co.kind
  glob := I.ok.glob
  blt := I.ok.blt
  above := hC
  inj := fun x y c e1 e2 => I.ok.inj x y c (clOf_env e1) (clOf_env e2)
  has := fun x h => by
    have h1 : ∃ k, (relabel scope X.env).names.lookup x = some k ∧ (k = .cell ∨ k = .free) := by
      rcases h with h | h
      · exact ⟨_, h, .inl rfl⟩
      · exact ⟨_, h, .inr rfl⟩
    obtain ⟨k, h1, h2⟩ := h1
    obtain ⟨k', hm, q⟩ := lookup_relabel h1
    have hk : k' = .free := by
      rcases q with q | ⟨q, _⟩
      · rcases h2 with z | z
        · exact absurd (q.trans z) (co.nocell _ hm)
        · exact q.trans z
      · exact q
    rw [hk] at hm
    obtain ⟨c, hc⟩ := I.ok.has x (co.frees _ hm rfl)
    exact ⟨c, clOf_has hm hc⟩
  cab := fun x c h => by
    have h' : false = true := h
    cases h'
  hd := I.ok.hd
  frames := I.ok.frames
  stk := .inl rfl
  exf := fun b hb => ⟨Nat.ne_of_lt (Nat.lt_of_lt_of_le (hlt b hb) hC), fun x c e => (hf b hb).2.2.2.2.1 x c (clOf_env e)⟩
  bs := I.bs
  bsz := Nat.le_trans I.ok.bsz I.sz
  noex := fun b o e hb => by
    rcases (hf b hb).2.2.2.1 with z | z
    · exact I.ok.noex b o e z
    · exact absurd (Nat.lt_of_lt_of_le (Heap.lt_size (I.ok.bs b o e).1) z) (Nat.lt_irrefl _)
  exfs := fun b hb z => by
    rcases List.mem_cons.mp (I.stkSub b z) with e | e
    · exact (hf b hb).2.1 e
    · exact (hf b hb).2.2.1 e
  funs := I.stack
  frf := I.stkFree
theorem blk_nofs (I : Inv X pins σ H₂ s₂) {b : Addr} (h : s₂.heap.objs.size ≤ b) : b ∉ frs X.stack := fun z => by
  rcases List.mem_cons.mp (I.stkSub b z) with e | e
  · rw [e] at h; exact absurd (Nat.lt_of_lt_of_le I.lt h) (Nat.lt_irrefl _)
  · exact I.nofs h e
/-- the block begins: the accumulator (at D) stands pinned -/
theorem blk_start (I : Inv X pins σ H₂ s₂) (co : CompOk X.N X.env.scope scope N' ix) {D : Addr} {h₁ : Heap} {t' : Nat} (hD : @Eq Nat D s₂.heap.objs.size) (hC : @Eq Nat C (s₂.heap.objs.size + 1)) (hf : ∀ b ∈ fp, FpOk X pins H₂ b) (hlt : ∀ b ∈ fp, b < s₂.heap.objs.size)
    (old : ∀ b o, s₂.heap.get? b = some o → h₁.get? b = some o) (hacc : h₁.get? D = some (lstO [] 0)) {m : Str → Option Value} (hns : h₁.Ns C m) :
    Inv (blk X scope N' C fp s₂ H₂) [(D, lstO [] 0)] (blkSt ix σ) H₂ { s₂ with heap := h₁, toks := t' } where
  ok := blk_ok I co (by omega) hf hlt
  os := rfl
  bare := I.bare
  base := Un.kept old
  loc := by
    refine ⟨m, hns, fun i x v e1 e2 e3 => ?_⟩
    unfold blkSt at e2
    rw [List.getElem?_map] at e2
    cases q : ix[i]? with
    | none => rw [q] at e2; cases e2
    | some o =>
      rw [q] at e2
      cases o with
      | none => cases e2
      | some k =>
        have e2' : (σ[k]?).join = some v := Option.some.inj e2
        have e2'' : σ[k]? = some (some v) := by
          cases z : σ[k]? with
          | none => rw [z] at e2'; cases e2'
          | some o => rw [z] at e2'; exact congrArg some e2'
        obtain ⟨o1, o2, o3⟩ := co.out i x k e1 q
        have hk : X.env.kindOf x = some .cell ∨ X.env.kindOf x = some .free := co.frees _ o2 rfl
        have vis : Vis X.env.scope x := .inr hk
        obtain ⟨m0, _, hl⟩ := I.loc
        obtain ⟨u, r, l⟩ := hl k x v o1 e2'' vis
        refine ⟨u, r, ?_⟩
        rcases l with ⟨l, _⟩ | ⟨_, c, ec, hcell⟩
        · rcases hk with z | z
          · rw [z] at l; cases l
          · rw [z] at l; cases l
        · refine .inr ⟨?_, c, clOf_has o2 ec, ?_⟩
          · rcases e3 with z | z | z
            · obtain ⟨k', hm, q⟩ := lookup_relabel z
              rcases q with q | ⟨_, q⟩
              · have := o3 _ hm rfl
                rw [show k' = NameKind.local from q] at this
                cases this
              · cases q
            · exact .inl z
            · exact .inr z
          · obtain ⟨o, ho, hd⟩ := hcell
            exact ⟨o, old _ _ ho, hd⟩
  cell := fun x c e => by
    obtain ⟨v, o, ho, hd⟩ := I.cell x c (clOf_env e)
    exact ⟨v, o, old _ _ ho, hd⟩
  free := I.hok.fresh (by show @LE.le Nat _ s₂.heap.objs.size C; omega)
  freeC := fun x c e => I.freeC x c (clOf_env e)
  pin := fun p hp => by
    have e : p = (D, lstO [] 0) := by simpa [blk] using hp
    subst e
    refine ⟨hacc, I.hok.fresh (by show @LE.le Nat _ s₂.heap.objs.size D; omega), by show ¬ @Eq Nat D C; omega, blk_nofs I (by show @LE.le Nat _ s₂.heap.objs.size D; omega), fun v z => ?_⟩
    have z' : Data.seq _ _ = Data.cell v := z
    cases z'
  hok := I.hok.kept old
  len := by unfold blkSt; rw [List.length_map]; exact co.len
/-- the block is left: the accumulator is tracked -/
theorem blk_leave (I : Inv X pins σ H₂ s₂) {D : Addr} (hD : @Eq Nat D s₂.heap.objs.size) (hf : ∀ b ∈ fp, FpOk X pins H₂ b) {ys : List V} {its : List Value} {n : Nat} {σ' : St} {H' : Hp} {s' : Shared}
    (I' : Inv (blk X scope N' C fp s₂ H₂) [(D, lstO its n)] σ' H' s') (hv : Vals ys its) (hz : ys.length ≤ sizeLine) : Inv X pins σ (upd H' D (.lst ys)) s' := by
  obtain ⟨dp, dn, _, _, _⟩ := I'.pin (D, lstO its n) (by simp)
  have dp' : s'.heap.get? D = some (lstO its n) := dp
  have dn' : H' D = none := dn
  have u := I'.base
  have ne : ∀ b o, s₂.heap.get? b = some o → b ≠ D := fun b o e z => by
    have h1 : @LT.lt Nat _ b s₂.heap.objs.size := Heap.lt_size e
    have h2 : @Eq Nat b D := z
    omega
  have neH : ∀ b o, H₂ b = some o → b ≠ D := fun b o e z => by
    have h1 : @LT.lt Nat _ b s₂.heap.objs.size := I.hok.lt e
    have h2 : @Eq Nat b D := z
    omega
  refine I.call' (ch := fp) I'.os ⟨u.keep, u.slot, fun b o e q hb => ?_, u.there, fun b xs q => ?_, fun b o xs q => ?_, fun b ps q => ?_⟩ (fun b o e => ?_) I'.bare fun b hb => ?_
  · rw [upd_ne (ne b o e)]
    exact u.free b o e q hb
  · rw [upd_ne (neH b _ q)]
    exact u.tups b xs q
  · rw [upd_ne (neH b _ q)]
    exact u.frzs b o xs q
  · rw [upd_ne (neH b _ q)]
    exact u.tbls b ps q
  · by_cases hb : b = D
    · subst hb
      rw [upd_same] at e
      cases e
      exact ⟨hz, its, n, hv, dp'⟩
    · rw [upd_ne hb] at e
      exact (I'.hok b o e).stay (fun c v _ q => q) (fun c q => by rw [upd_ne (ne_of_none q dn')]; exact q) fun c xs q => by rw [upd_ne (ne_of_none q dn')]; exact q
  · obtain ⟨_, f1, _, f3, f4, f5⟩ := hf b hb
    exact ⟨f3, f1, f4, f5⟩
end
end L2
namespace L2
open PySem PySem.Spec PyProof.Rows
abbrev NoE : Value → Shared → Prop := fun _ _ => False
section
variable {prog : Program} {w : World} {A : Around} {R : Result → Shared → Prop} {s : Shared}
/-- a comprehension's turns, with the step ahead of the store -/
theorem compLoop_own {elt target iter : Expr} {ifs : List Expr} {scope : Scope} {pos : Pos} {it acc : Value} {env : Env} (I : Nat → Shared → Prop)
    (turn : ∀ n s, I n s → wpAny (model prog w) A (pyNext it) (fun r s₁ => match r with
      | none => R (.ok .next) s₁
      | some v => wpAny (model prog w) A (letOwnedTupleGo target it v) (fun _ s₁ => wpAny (model prog w) A (assign target env v) (fun _ s₂ =>
          wpAny (model prog w) A (forIn ifs true fun c r => if r = true then do let ok ← isTrue c env (eval c env); pure (ForInStep.yield ok) else pure (ForInStep.yield r)) (fun ok s₃ =>
            if ok = true then wpAny (model prog w) A (eval elt env) (fun x s₄ =>
              wpAny (model prog w) A (call (.builtin "list.append") [acc, x]) (fun _ s₅ => ∃ m, m < n ∧ I m s₅) NoE s₄) NoE s₃
            else ∃ m, m < n ∧ I m s₃) NoE s₂) NoE s₁) NoE s₁) NoE s)
    (n : Nat) (h : I n s) : codeAny (model prog w) A (.compLoop (.ListComp elt [⟨target, iter, ifs, 0⟩] scope pos) 0 it acc env) R s := by
  refine codeAny_loop rfl I (fun n s hI => ?_) n h
  show wpAny _ A ((compTurn (.ListComp elt [⟨target, iter, ifs, 0⟩] scope pos) 0 it acc env).onRaise (fun x => do noteFrame x env; theTreesLotGoes x)) _ _ s
  refine wpAny_noted ?_
  rw [compTurn_list]
  refine wpAny_bind (wpAny_standAt (wpAny_bind (wpAny_mono (turn n s hI) (fun r s₁ h₁ => ?_) fun _ _ h' => h'.elim)))
  cases r with
  | none => exact wpAny_pure h₁
  | some v =>
    refine wpAny_bind (wpAny_mono h₁ (fun _ s₁ h₁ => ?_) fun _ _ h' => h'.elim)
    refine wpAny_bind (wpAny_mono h₁ (fun _ s₂ h₂ => wpAny_bind (wpAny_mono h₂ (fun ok s₃ h₃ => ?_) fun _ _ h' => h'.elim)) fun _ _ h' => h'.elim)
    cases ok with
    | false => exact wpAny_pure ⟨rfl, h₃⟩
    | true =>
      exact wpAny_bind (wpAny_bind (wpAny_mono h₃ (fun x s₄ h₄ => wpAny_bind (wpAny_mono h₄ (fun _ s₅ h₅ => wpAny_pure (wpAny_pure ⟨rfl, h₅⟩)) fun _ _ h' => h'.elim)) fun _ _ h' => h'.elim))
end

/-- the tests of a comprehension -/
def PIf (X : Cx) (ifs : List Expr) (t : TT) : Prop :=
  ∀ (pins : List (Addr × Obj)) (s : Shared) (σ : St) (H : Hp) (Q : Bool → Hp → Prop), Inv X pins σ H s → t σ H Q →
    wpAny (model X.prog X.w) X.A (forIn ifs true fun c r => if r = true then do let ok ← isTrue c X.env (eval c X.env); pure (ForInStep.yield ok) else pure (ForInStep.yield r)) (TP X pins σ Q) X.xe s
def tYes : TT := fun _ H Q => Q true H
theorem pif_nil {X : Cx} : PIf X [] tYes := fun _ _ _ H _ I h => wpAny_tests_nil ⟨H, I, h⟩
/-- what is wanted of the list that was made -/
def lcEnd (Q : VK) (ys : List V) (H : Hp) : Prop := ∀ p, H p = none → Q (.ref p) (upd H p (.lst ys))
/-- the reading of [elt for tg in iter if ..]: W by the turn, a measure, the list so far, the block's values, the heap -/
def tLc (ix : List (Option Nat)) (wi : TI) (g : TG) (ti : TT) (te : TE) : TE := fun σ H Q => wi σ H fun J H1 => ∃ W : Nat → Nat → List V → St → Hp → Prop, (∃ m, W 0 m [] (blkSt ix σ) H1) ∧ ∀ i m ys σ H, W i m ys σ H →
  ys.length ≤ sizeLine ∧ ((J.stop i H ∧ lcEnd Q ys H) ∨
    (J.go i H ∧ ∃ N : List V → St → Hp → Prop, (∀ ys' σ' H', N ys' σ' H' → ∃ m', m' < m ∧ W (i + 1) m' ys' σ' H') ∧
      ∀ x H', J.yld i H x H' → g x σ H' fun σ2 H2 => ti σ2 H2 fun b H3 => if b = true then te σ2 H3 fun y H4 => N (ys ++ [y]) σ2 H4 else N ys σ2 H3))

/-- the block's own frame: it may go -/
structure Gone (X : Cx) (pins : List (Addr × Obj)) (H : Hp) (s : Shared) (C : Addr) : Prop where
  ns : ∃ m, s.heap.Ns C m
  fr : H C = none
  nl : C ≠ X.env.locals
  ab : X.s₀.heap.objs.size ≤ C
  nc : ∀ x c, X.env.cells.lookup x = some c → c ≠ C
  np : ∀ p ∈ X.pn ++ pins, p.1 ≠ C
section
variable {X : Cx}
theorem blk_run {scope : Scope} {N' : List Str} {ix : List (Option Nat)} {pins : List (Addr × Obj)} {σ : St} {tg iter elt : Expr} {ifs : List Expr} {pos : Pos} {g : TG} {ti : TT} {te : TE} {E : Value → Shared → Prop}
    (co : CompOk X.N X.env.scope scope N' ix) (hc : X.calm = true)
    (hg : ∀ C fp s₂ H₂, PG (blk X scope N' C fp s₂ H₂) tg g) (hi : ∀ C fp s₂ H₂, PIf (blk X scope N' C fp s₂ H₂) ifs ti) (he : ∀ C fp s₂ H₂, PE (blk X scope N' C fp s₂ H₂) elt te)
    {H₂ : Hp} {s₂ : Shared} {J : It} {fp : List Addr} {it : Addr} {tn : Nat → Heap → Prop} {QF : List V → Hp → Prop}
    (I : Inv X pins σ H₂ s₂) (T : Turn X.prog X.w X.K tg J fp it tn) (st : tn 0 s₂.heap) (hf : ∀ b ∈ fp, FpOk X pins H₂ b)
    {W : Nat → Nat → List V → St → Hp → Prop} (w0 : ∃ m, W 0 m [] (blkSt ix σ) H₂)
    (hW : ∀ i m ys σ H, W i m ys σ H → ys.length ≤ sizeLine ∧ ((J.stop i H ∧ QF ys H) ∨
      (J.go i H ∧ ∃ N : List V → St → Hp → Prop, (∀ ys' σ' H', N ys' σ' H' → ∃ m', m' < m ∧ W (i + 1) m' ys' σ' H') ∧
        ∀ x H', J.yld i H x H' → g x σ H' fun σ2 H2 => ti σ2 H2 fun b H3 => if b = true then te σ2 H3 fun y H4 => N (ys ++ [y]) σ2 H4 else N ys σ2 H3)))
    {RR : Value → Addr → Result → Shared → Prop}
    (hRR : ∀ D C ys H' s', Inv X pins σ (upd H' D (.lst ys)) s' → H' D = none → QF ys H' → Gone X pins (upd H' D (.lst ys)) s' C → RR (.ref D) C (.ok .next) s') :
    wpAny (model X.prog X.w) X.A (newList []) (fun acc s₃ => wpAny (model X.prog X.w) X.A (newFunctionEnv scope X.env.globals (clOf scope X.env) [] X.env.qual none .none (some X.env)) (fun cenv s₄ =>
      codeAny (model X.prog X.w) X.A (.compStart (.ListComp elt [⟨tg, iter, ifs, 0⟩] scope pos) 0 (.ref it) acc { cenv with scope := relabel scope X.env }) (RR acc cenv.locals) s₄) E s₃) E s₂ := by
  have hlt : ∀ b ∈ fp, @LT.lt Nat _ b s₂.heap.objs.size := fun b hb => by
    obtain ⟨o, e, _⟩ := T.obj _ _ st b hb
    exact Heap.lt_size e
  refine wpAny_newObj_type (wpAny_newFunctionEnv co.nocell (by intro y hy; simp at hy) (fun h₁ hns₁ hsb₁ => ?_) co.kind)
  dsimp only at hns₁ hsb₁ ⊢
  generalize hH2 : s₂.heap.push { cls := .type "list", dict := none, data := .seq ([] : List Value).toArray } = H2 at hns₁ hsb₁ ⊢
  have hC : @Eq Nat H2.objs.size (s₂.heap.objs.size + 1) := by rw [← hH2, Heap.size_push]
  have below : ∀ b : Nat, b < s₂.heap.objs.size → ¬ @Eq Nat b H2.objs.size := fun b hb => by omega
  have hDC : ¬ @Eq Nat s₂.heap.objs.size H2.objs.size := by omega
  have old : ∀ b o, s₂.heap.get? b = some o → h₁.get? b = some o := fun b o e => hsb₁.extBut b o (below b (Heap.lt_size e)) (Heap.get?_push_of_some _ (hH2 ▸ Heap.get?_push_of_some _ e))
  have hacc : h₁.get? s₂.heap.objs.size = some (lstO [] 0) := hsb₁.extBut _ _ hDC (Heap.get?_push_of_some _ (hH2 ▸ Heap.get?_push_size _ rfl))
  have st₁ : tn 0 h₁ := T.keep _ _ _ st fun b _ o e => old b o e
  generalize hCe : H2.objs.size = C at hns₁ hsb₁ hC below hDC ⊢
  generalize hDe : s₂.heap.objs.size = D at hacc hDC ⊢
  have loop : ∀ s₃ : Shared, s₃ = { s₂ with heap := h₁, toks := s₂.toks + ([] : List (Str × Value)).length } →
      codeAny (model X.prog X.w) X.A (.compLoop (.ListComp elt [⟨tg, iter, ifs, 0⟩] scope pos) 0 (.ref it) (.ref D) (compEnvC scope (clOf scope X.env) C X.env)) (RR (.ref D) C) s₃ := by
    rintro s₃ rfl
    obtain ⟨m0, w0⟩ := w0
    have I3 : Inv (blk X scope N' C fp s₂ H₂) [(D, lstO [] 0)] (blkSt ix σ) H₂ { s₂ with heap := h₁, toks := s₂.toks + ([] : List (Str × Value)).length } := blk_start I co hDe.symm hC hf hlt old hacc hns₁
    refine compLoop_own (fun k s' => ∃ i ys its n σ' H', Inv (blk X scope N' C fp s₂ H₂) [(D, lstO its n)] σ' H' s' ∧ Vals ys its ∧ tn i s'.heap ∧ (∀ b ∈ fp, H' b = none) ∧ W i k ys σ' H') ?_ m0
      ⟨0, [], [], 0, _, _, I3, .nil, st₁, fun b hb => (hf b hb).1, w0⟩
    rintro k s' ⟨i, ys, its, n, σ', H', I', hv, st', fr', w'⟩
    have fpok : ∀ {H' : Hp} {o : Obj}, (∀ b ∈ fp, H' b = none) → ∀ b ∈ fp, FpOk (blk X scope N' C fp s₂ H₂) [(D, o)] H' b := fun {H' o} hn b hb => by
      refine ⟨hn b hb, below b (hlt b hb), fun z => ?_, .inl hb, fun x c e => (hf b hb).2.2.2.2.1 x c (clOf_env e), fun p hp z => ?_⟩
      · rcases List.mem_cons.mp (I.stkSub b z) with e | e
        · exact (hf b hb).2.1 e
        · exact (hf b hb).2.2.1 e
      · have e : p = (D, o) := by simpa [blk] using hp
        subst e
        have z' : @Eq Nat D b := z
        have z2 := hlt b hb
        omega
    obtain ⟨hz, hW'⟩ := hW i k ys σ' H' w'
    rcases hW' with ⟨stop, q⟩ | ⟨go, N, hN, step⟩
    · refine thn (T.done (blk X scope N' C fp s₂ H₂) rfl rfl rfl hc i _ s' σ' H' NoE I' (fpok fr') st' stop) fun r s4 ⟨hr, I4⟩ => ?_
      subst hr
      obtain ⟨_, dn, _⟩ := I4.pin (D, lstO its n) (by simp)
      have cf : H' C = none := I4.free
      refine hRR D C ys H' s4 (blk_leave I hDe.symm hf I4 hv hz) dn q ⟨?_, by rw [upd_ne (Ne.symm hDC)]; exact cf, ?_, ?_, fun x c e => ?_, fun p hp => ?_⟩
      · obtain ⟨m, hn, _⟩ := I4.loc
        exact ⟨m, hn⟩
      · have z : @LT.lt Nat _ X.env.locals s₂.heap.objs.size := I.lt
        show ¬ @Eq Nat C X.env.locals
        omega
      · have z : @LE.le Nat _ X.s₀.heap.objs.size s₂.heap.objs.size := I.sz
        show @LE.le Nat _ X.s₀.heap.objs.size C
        omega
      · obtain ⟨v, z⟩ := I.cell x c e
        have z2 : @LT.lt Nat _ c s₂.heap.objs.size := z.lt
        show ¬ @Eq Nat c C
        omega
      · have z2 : @LT.lt Nat _ p.1 s₂.heap.objs.size := Heap.lt_size (I.pin p hp).1
        show ¬ @Eq Nat p.1 C
        omega
    · refine thn (T.item (blk X scope N' C fp s₂ H₂) rfl rfl rfl hc i _ s' σ' H' NoE I' (fpok fr') st' go) fun r s4 ⟨u, hr, h4⟩ => ?_
      subst hr
      refine thn h4 fun _ s5 ⟨x, H5, I5, r5, y5, st5, fr5⟩ => ?_
      have I5' := I5.pinned (fpok fr5) (T.obj _ _ st5)
      refine thn (hg C fp s₂ H₂ _ s5 σ' H5 x u _ I5' r5 (step x H5 y5)) fun _ s6 ⟨σ6, H6, I6, q6⟩ => ?_
      refine thn (hi C fp s₂ H₂ _ s6 σ6 H6 _ I6 q6) fun ok s7 ⟨H7, I7, q7⟩ => ?_
      have fpin : ∀ {σ8 : St} {H8 : Hp} {s8 : Shared}, Inv (blk X scope N' C fp s₂ H₂) ([(D, lstO its n)] ++ pinsAt fp s5.heap) σ8 H8 s8 → ∀ b ∈ fp, ∀ o, s5.heap.get? b = some o → s8.heap.get? b = some o ∧ H8 b = none := fun {σ8 H8 s8} I8 b hb o e => by
        have z := I8.pin (b, o) (List.mem_append_right _ (List.mem_append_right _ (mem_pinsAt hb e)))
        exact ⟨z.1, z.2.1⟩
      cases ok with
      | false =>
        have q7' : N ys σ6 H7 := by
          have q7' := q7
          rw [if_neg Bool.false_ne_true] at q7'
          exact q7'
        obtain ⟨m', hm, w7⟩ := hN _ _ _ q7'
        refine ⟨m', hm, i + 1, ys, its, n, σ6, H7, I7.unpinned, hv, T.keep _ _ _ st5 fun b hb o e => (fpin I7 b hb o e).1, fun b hb => ?_, w7⟩
        obtain ⟨o, e, _⟩ := T.obj _ _ st5 b hb
        exact (fpin I7 b hb o e).2
      | true =>
        have q7' : te σ6 H7 fun y H4 => N (ys ++ [y]) σ6 H4 := by
          have q7' := q7
          rw [if_pos rfl] at q7'
          exact q7'
        show wpAny _ _ _ _ _ _
        refine thn (he C fp s₂ H₂ _ s7 σ6 H7 _ I7 q7') fun yv s8 ⟨y, H8, I8, r8, q8⟩ => ?_
        obtain ⟨m', hm, w8⟩ := hN _ _ _ q8
        obtain ⟨z1, z2, z3, z4, z5⟩ := I8.pin (D, lstO its n) (by simp)
        have zD : s8.heap.get? D = some (lstO its n) := z1
        have lenv := hv.length
        refine append_at (hsz := by rw [List.size_toArray]; omega) zD fun h9 hs9 hD9 => ?_
        have I8' : Inv (blk X scope N' C fp s₂ H₂) (pinsAt fp s5.heap) σ6 H8 s8 := I8.pins_of fun p hp => I8.pin p (List.mem_append_right _ (List.mem_append_right _ hp))
        have I9 : Inv (blk X scope N' C fp s₂ H₂) (pinsAt fp s5.heap) σ6 H8 { s8 with heap := h9 } := I8'.turned (it := D) (t' := s8.toks) (fun b o hb e => (hs9.2 b hb).trans e) z2 z3
          (.inr (by show s₂.heap.objs.size ≤ D; omega)) (fun x c e => by have z : @LT.lt Nat _ c s₂.heap.objs.size := blk_cells (scope := scope) I e; show ¬ @Eq Nat c D; omega) (fun p hp => by
            have hp' : p ∈ pinsAt fp s5.heap := by simpa [blk] using hp
            have z := hlt _ (of_pinsAt hp').1
            show ¬ @Eq Nat p.1 D
            omega)
        have hD9' : h9.get? D = some (lstO (its ++ [yv]) (n + 1)) := by
          rw [hD9]
          simp [lstO]
        have I10 : Inv (blk X scope N' C fp s₂ H₂) [(D, lstO (its ++ [yv]) (n + 1))] σ6 H8 { s8 with heap := h9 } := I9.pins_of fun p hp => by
          have e : p = (D, lstO (its ++ [yv]) (n + 1)) := by simpa using hp
          subst e
          refine ⟨hD9', z2, z3, z4, fun v z => ?_⟩
          have z' : Data.seq _ _ = Data.cell v := z
          cases z'
        refine ⟨m', hm, i + 1, ys ++ [y], its ++ [yv], n + 1, σ6, H8, I10, hv.append (.cons r8 .nil), T.keep _ _ _ st5 fun b hb o e => ?_, fun b hb => ?_, w8⟩
        · have hbD : b ≠ D := by
            have z := hlt b hb
            show ¬ @Eq Nat b D
            omega
          exact (hs9.2 b hbD).trans (fpin I8 b hb o e).1
        · obtain ⟨o, e, _⟩ := T.obj _ _ st5 b hb
          exact (fpin I8 b hb o e).2
  exact codeAny_compStart_list (loop _ rfl) (T.self _ 0 _ _ _ st₁ (loop _ rfl))

theorem Gone.go {pins : List (Addr × Obj)} {σ : St} {H : Hp} {s : Shared} {C : Addr} {h' : Heap} (G : Gone X pins H s C) (I : Inv X pins σ H s) (hs : Heap.SameBut C s.heap h') : Inv X pins σ H { s with heap := h' } :=
  I.turned (it := C) (t' := s.toks) (fun b o hb e => (hs.2 b hb).trans e) G.fr G.nl (.inr G.ab) G.nc G.np

variable {scope : Scope} {N' : List Str} {ix : List (Option Nat)} {tg iter elt : Expr} {ifs : List Expr} {pos : Pos} {wi : TI} {g : TG} {ti : TT} {te : TE}
theorem comp_clos (co : CompOk X.N X.env.scope scope N' ix) {pins : List (Addr × Obj)} {σ : St} {H : Hp} {s : Shared} (I : Inv X pins σ H s) : closureFor scope X.env = pure (clOf scope X.env) :=
  closure_is fun p hp e => I.ok.has p.1 (co.frees p hp e)
/-- [elt for tg in iter if ..] as a value -/
theorem pe_lcomp (co : CompOk X.N X.env.scope scope N' ix) (hc : X.calm = true) (hit : PI X tg iter wi) (hg : ∀ C fp s₂ H₂, PG (blk X scope N' C fp s₂ H₂) tg g) (hi : ∀ C fp s₂ H₂, PIf (blk X scope N' C fp s₂ H₂) ifs ti)
    (he : ∀ C fp s₂ H₂, PE (blk X scope N' C fp s₂ H₂) elt te) (hs : ∀ x, foldedSetIterable iter X.env x = pure x := by intro _; rfl) :
    PE X (.ListComp elt [⟨tg, iter, ifs, 0⟩] scope pos) (tLc ix wi g ti te) := by
  intro pins s σ H Q I h
  rw [eval_ListComp]
  refine wpAny_comprehension_free (use := none) rfl hs (comp_clos co I) co.kind co.names (thn (hit pins s σ H _ I h) fun xv s₁ h₁ => thn h₁ fun itv s₂ h₂ => ?_)
  obtain ⟨it, fp, tn, J, H₂, e, I₂, T, st, hf, W, w0, hW⟩ := h₂
  subst e
  refine blk_run co hc hg hi he I₂ T st hf w0 hW (RR := fun acc C => compPost (model X.prog X.w) X.A X.xe none (EP X pins σ Q) acc C) fun D C ys H' s' I' dn q G => ?_
  obtain ⟨m, hn⟩ := G.ns
  exact ⟨m, hn, fun h' hs' => ⟨.ref D, _, G.go I' hs', rfl, q D dn⟩⟩
end

/-! ### the forms one uses -/
theorem lc_list {K : PySem.W.Frag} {a : Addr} {xs : List V} {g : TG} {ti : TT} {te : TE} {σ0 : St} {H0 : Hp} {Q : VK} (Pv : Nat → List V → St → Hp → Prop) (h0 : Pv 0 [] σ0 H0)
    (hl : ∀ i ys σ H, i ≤ xs.length → Pv i ys σ H → SqL K H a xs ∧ ys.length ≤ sizeLine)
    (hs : ∀ i x ys σ H, xs[i]? = some x → Pv i ys σ H → g x σ H fun σ2 H2 => ti σ2 H2 fun b H3 => if b = true then te σ2 H3 fun y H4 => Pv (i + 1) (ys ++ [y]) σ2 H4 else Pv (i + 1) ys σ2 H3)
    (hd : ∀ ys σ H, Pv xs.length ys σ H → ∀ p, H p = none → Q (.ref p) (upd H p (.lst ys))) :
    ∃ W : Nat → Nat → List V → St → Hp → Prop, (∃ m, W 0 m [] σ0 H0) ∧ ∀ i m ys σ H, W i m ys σ H →
      ys.length ≤ sizeLine ∧ (((Itl K a).stop i H ∧ lcEnd Q ys H) ∨
        ((Itl K a).go i H ∧ ∃ N : List V → St → Hp → Prop, (∀ ys' σ' H', N ys' σ' H' → ∃ m', m' < m ∧ W (i + 1) m' ys' σ' H') ∧
          ∀ x H', (Itl K a).yld i H x H' → g x σ H' fun σ2 H2 => ti σ2 H2 fun b H3 => if b = true then te σ2 H3 fun y H4 => N (ys ++ [y]) σ2 H4 else N ys σ2 H3)) := by
  refine ⟨fun i m ys σ H => m = xs.length - i ∧ i ≤ xs.length ∧ Pv i ys σ H, ⟨xs.length, by simp, Nat.zero_le _, h0⟩, ?_⟩
  rintro i m ys σ H ⟨rfl, hi, p⟩
  obtain ⟨q, hz⟩ := hl i ys σ H hi p
  refine ⟨hz, ?_⟩
  by_cases hlt : i < xs.length
  · refine .inr ⟨⟨xs, xs[i], q, by simp [hlt]⟩, Pv (i + 1), fun ys' σ' H' p' => ⟨xs.length - (i + 1), by omega, rfl, hlt, p'⟩, fun x H' y => ?_⟩
    obtain ⟨e, y⟩ := y
    subst e
    exact hs i x ys σ _ (y xs q) p
  · have e : i = xs.length := by omega
    subst e
    exact .inl ⟨⟨xs, q, Nat.le_refl _⟩, hd ys σ H p⟩
end L2
/-! OWN RULES: isinstance, all, any, sum, [::-1], is with a bool, deep equality -/
namespace L2
open PySem PySem.Spec PyProof.Rows
section
variable {X : Cx}
/-- isinstance(x, T), T a built-in type -/
theorem call_isinst : CallR X (.builtin "isinstance") (fun xs H Q => ∃ x t T b, xs = [x, .ty T] ∧ TyOf X.K H x t ∧ PySem.W.kitOne X.K t (.type T) = some b ∧ Q (.bl b) H) := by
  intro pins s σ H xs us Q I r h
  obtain ⟨x, t, T, b, rfl, ty, e, q⟩ := h
  obtain ⟨u, w, rfl, r1, r2⟩ := vals2 r
  obtain rfl : w = Value.type T := r2
  exact isinst_ok I r1 ty e fun tk => ⟨.bl b, H, I.tok tk, rfl, q⟩

theorem walks_list {A : Around} {s : Shared} {p : Addr} {its : List Value} (hh : A.handled = none) (hl : s.heap.IsList p its.toArray) :
    ∃ (fp : List Addr), (∀ b ∈ fp, b < s.heap.objs.size + 1) ∧ Walks X.prog X.w A s.heap.objs.size fp [s.heap.objs.size] its.toArray.size (fun i v => its.toArray[i]? = some v) (fun i h => h.IsListIter s.heap.objs.size p i ∧ h.IsList p its.toArray) ∧
      ((s.heap.push { cls := .type "list_iterator", data := .fields #[.ref p, .int 0 0] }).IsListIter s.heap.objs.size p 0 ∧ (s.heap.push { cls := .type "list_iterator", data := .fields #[.ref p, .int 0 0] }).IsList p its.toArray) := by
  have hlt : p < s.heap.objs.size := by obtain ⟨_, e, _⟩ := hl; exact Heap.lt_size e
  refine ⟨[s.heap.objs.size, p], fun b hb => ?_, Walks.list (A := A) hh _ p (Nat.ne_of_lt hlt) its.toArray, ⟨_, Heap.get?_push_size _ rfl, rfl, rfl⟩, hl.push _⟩
  rcases List.mem_cons.mp hb with e | e
  · rw [e]; exact Nat.lt_succ_self _
  · rw [List.mem_singleton.mp e]; exact Nat.lt_succ_of_lt hlt
theorem kept_iter' {s : Shared} {h' : Heap} {o : Obj} (hk : ∀ b x, b ∉ [s.heap.objs.size] → (s.heap.push o).get? b = some x → h'.get? b = some x) : ∀ b x, s.heap.get? b = some x → h'.get? b = some x :=
  fun b x e => hk b x (fun hm => by rw [List.mem_singleton.mp hm] at e; exact Nat.lt_irrefl _ (Heap.lt_size e)) (Heap.get?_push_of_some _ e)
theorem vals_bl : ∀ {bs : List Bool} {us : List Value}, Vals (bs.map V.bl) us → us = bs.map Value.bool
  | [], us, h => by
    rw [List.map_nil] at h
    cases h
    rfl
  | b :: bs, us, h => by
    rw [List.map_cons] at h
    cases h with
    | cons r1 r2 =>
      cases r1
      rw [vals_bl r2, List.map_cons]
theorem truth_bl {A : Around} (bs : List Bool) (d : Bool) : ∀ (i : Nat) (v : Value) (s' : Shared) (Q' : Bool → Shared → Prop) (E' : Value → Shared → Prop), (bs.map Value.bool).toArray[i]? = some v → Q' ((bs[i]?).getD d) s' → wpAny (model X.prog X.w) A (truthy v) Q' E' s' :=
  fun i v s' Q' E' hP hQ => by
    have e : (bs.map Value.bool)[i]? = some v := by simpa using hP
    rw [List.getElem?_map] at e
    cases q : bs[i]? with
    | none => rw [q] at e; cases e
    | some b =>
      rw [q] at e hQ
      have e' : Value.bool b = v := Option.some.inj e
      subst e'
      exact wpAny_truthy_bool hQ
/-- all(xs), any(xs), xs a list of bools -/
theorem call_all (hc : X.calm = true) : CallR X (.builtin "all") (fun xs H Q => ∃ (p : Addr) (bs : List Bool), xs = [.ref p] ∧ SqL X.K H p (bs.map V.bl) ∧ Q (.bl (bs.all id)) H) := by
  intro pins s σ H xs us Q I r h
  obtain ⟨p, bs, rfl, hq, q⟩ := h
  obtain ⟨u, rfl, rx⟩ := vals1 r
  cases rx
  obtain ⟨its, r', pl, hz⟩ := I.list hq
  have ei := vals_bl r'
  subst ei
  obtain ⟨fp, hfp, W, st⟩ := walks_list (X := X) (A := X.A.in1) (s := s) (I.ok.hd hc) pl.isList
  refine call_all_walk (wpAny_pyIter_list pl.isList ⟨_, fp, _, _, _, _, fun i => (bs[i]?).getD true, rfl, W, st, truth_bl bs true, fun h' tk hk => ?_⟩)
  have e : ((List.range (bs.map Value.bool).toArray.size).all fun i => (bs[i]?).getD true) = bs.all id := by
    rw [List.size_toArray, List.length_map]; exact LSm.range_all bs
  rw [e]
  exact ⟨.bl (bs.all id), H, I.kept (t' := tk) (kept_iter' hk), rfl, q⟩
/-- sum(xs), xs a list of ints -/
theorem call_sum (hc : X.calm = true) : CallR X (.builtin "sum") (fun xs H Q => ∃ (p : Addr) (ns : List Int), xs = [.ref p] ∧ SqL X.K H p (ns.map V.int) ∧ Q (.int ns.sum) H) := by
  intro pins s σ H xs us Q I r h
  obtain ⟨p, ns, rfl, hq, q⟩ := h
  obtain ⟨u, rfl, rx⟩ := vals1 r
  cases rx
  obtain ⟨its, r', pl, hz⟩ := I.list hq
  have hi := intsAre_of r'
  obtain ⟨ms, hx⟩ := hi.allInts.items
  have hl' : s.heap.IsList p (intItems ms) := hx ▸ pl.isList
  refine sum_intListG (I.ok.hd hc) hl' fun h' tk t' hk => ?_
  have e1 : ns = ms.toList.map (·.1) := by
    rw [← nums_intItems, ← hx]
    exact (show numsOf its.toArray.toList = ns from hi.numsOf).symm
  have e2 : preSum (numAt ms) ms.size = ns.sum := by
    rw [preSum_eq, List.take_of_length_le (by simp), e1]
  rw [e2]
  exact ⟨.int ns.sum, H, I.kept (t' := tk) hk, ⟨t', rfl⟩, q⟩

end
end L2
/-! OWN RULES: == and != of data of any depth -/
namespace L2
open PySem PySem.Spec PyProof.Rows

inductive Dt where
  | non | bl (b : Bool) | int (i : Int) | str (x : Str) | tup (ds : List Dt) | lst (ds : List Dt)

mutual
def HasD (K : PySem.W.Frag) (H : Hp) : Dt → V → Prop
  | .non, v => v = .non
  | .bl b, v => v = .bl b
  | .int i, v => v = .int i
  | .str x, v => v = .str x
  | .tup ds, v => ∃ a xs, v = .ref a ∧ SqT K H a xs ∧ HasDs K H ds xs
  | .lst ds, v => ∃ a xs, v = .ref a ∧ SqL K H a xs ∧ HasDs K H ds xs
def HasDs (K : PySem.W.Frag) (H : Hp) : List Dt → List V → Prop
  | [], xs => xs = []
  | d :: ds, xs => ∃ x r, xs = x :: r ∧ HasD K H d x ∧ HasDs K H ds r
end
mutual
def eqD : Dt → Dt → Bool
  | .non, .non => true
  | .bl a, .bl b => a == b
  | .bl a, .int b => (if a then 1 else 0) == b
  | .int a, .bl b => a == (if b then 1 else 0)
  | .int a, .int b => a == b
  | .str a, .str b => a == b
  | .tup as, .tup bs => eqDs as bs
  | .lst as, .lst bs => eqDs as bs
  | _, _ => false
def eqDs : List Dt → List Dt → Bool
  | [], [] => true
  | a :: as, b :: bs => eqD a b && eqDs as bs
  | _, _ => false
end
mutual
def depD : Dt → Nat
  | .tup ds => depDs ds + 1
  | .lst ds => depDs ds + 1
  | _ => 0
def depDs : List Dt → Nat
  | [] => 0
  | d :: ds => max (depD d) (depDs ds)
end

def eqAtI (ds es : List Dt) (j : Nat) : Bool := match ds[j]?, es[j]? with
  | some a, some b => eqD a b
  | _, _ => true
theorem range_eqDs : ∀ (ds es : List Dt), ((List.range (min ds.length es.length)).all (eqAtI ds es) && (ds.length == es.length)) = eqDs ds es
  | [], [] => by simp [eqDs]
  | [], e :: es => by simp [eqDs]
  | d :: ds, [] => by simp [eqDs]
  | d :: ds, e :: es => by
    have ih := range_eqDs ds es
    have e1 : min (d :: ds).length (e :: es).length = min ds.length es.length + 1 := by simp only [List.length_cons]; omega
    have e2 : ((d :: ds).length == (e :: es).length) = (ds.length == es.length) := by simp
    have e3 : (eqAtI (d :: ds) (e :: es) ∘ Nat.succ) = eqAtI ds es := by funext j; simp [eqAtI, Function.comp]
    have e4 : eqAtI (d :: ds) (e :: es) 0 = eqD d e := by simp [eqAtI]
    rw [e1, e2, List.range_succ_eq_map, List.all_cons, List.all_map, e3, e4, Bool.and_assoc, ih, eqDs]
theorem HasDs.length {K : PySem.W.Frag} {H : Hp} : ∀ {ds : List Dt} {xs : List V}, HasDs K H ds xs → ds.length = xs.length
  | [], xs, h => by
    rw [HasDs] at h
    rw [h]
    rfl
  | d :: ds, xs, h => by
    rw [HasDs] at h
    obtain ⟨x, r, rfl, _, h2⟩ := h
    rw [List.length_cons, List.length_cons, HasDs.length h2]
theorem HasDs.get {K : PySem.W.Frag} {H : Hp} : ∀ {ds : List Dt} {xs : List V} {j : Nat} {x : V}, HasDs K H ds xs → xs[j]? = some x → ∃ d, ds[j]? = some d ∧ HasD K H d x
  | [], xs, j, x, h, e => by
    rw [HasDs] at h
    subst h
    simp at e
  | d :: ds, xs, j, x, h, e => by
    rw [HasDs] at h
    obtain ⟨y, r, rfl, h1, h2⟩ := h
    cases j with
    | zero =>
      have e' : y = x := by simpa using e
      subst e'
      exact ⟨d, by simp, h1⟩
    | succ j =>
      obtain ⟨d', q1, q2⟩ := HasDs.get (j := j) h2 (by simpa using e)
      exact ⟨d', by simpa using q1, q2⟩
theorem dep_get : ∀ {ds : List Dt} {j : Nat} {d : Dt}, ds[j]? = some d → depD d ≤ depDs ds
  | [], j, d, e => by simp at e
  | c :: ds, j, d, e => by
    rw [depDs]
    cases j with
    | zero =>
      have e' : c = d := by simpa using e
      subst e'
      exact Nat.le_max_left _ _
    | succ j => exact Nat.le_trans (dep_get (j := j) (by simpa using e)) (Nat.le_max_right _ _)

section
variable {X : Cx} {pins : List (Addr × Obj)} {σ : St} {H : Hp} {s : Shared}
theorem list_not_tuple (I : Inv X pins σ H s) {a : Addr} {xs ys : List V} (h : SqL X.K H a xs) (h' : SqT X.K H a ys) : False := by
  obtain ⟨_, _, p, _⟩ := I.list h
  obtain ⟨_, _, q, _⟩ := I.tuple h'
  obtain ⟨o, e, c, _⟩ := p.isList
  obtain ⟨o', e', c', _⟩ := q
  rw [e] at e'
  cases e'
  rw [c] at c'
  exact absurd c' (by decide)
mutual
theorem hasD_same (I : Inv X pins σ H s) : ∀ (d e : Dt) (x : V), HasD X.K H d x → HasD X.K H e x → eqD d e = true
  | .non, e, x, h, k => by
    rw [HasD] at h
    subst h
    cases e <;> rw [HasD] at k <;> first | (obtain ⟨_, _, z, _⟩ := k; cases z) | rfl | cases k
  | .bl b, e, x, h, k => by
    rw [HasD] at h
    subst h
    cases e <;> rw [HasD] at k <;> first | (obtain ⟨_, _, z, _⟩ := k; cases z) | (cases k; simp [eqD]; done) | cases k
  | .int b, e, x, h, k => by
    rw [HasD] at h
    subst h
    cases e <;> rw [HasD] at k <;> first | (obtain ⟨_, _, z, _⟩ := k; cases z) | (cases k; simp [eqD]; done) | cases k
  | .str b, e, x, h, k => by
    rw [HasD] at h
    subst h
    cases e <;> rw [HasD] at k <;> first | (obtain ⟨_, _, z, _⟩ := k; cases z) | (cases k; simp [eqD]; done) | cases k
  | .tup ds, e, x, h, k => by
    rw [HasD] at h
    obtain ⟨a, xs, rfl, h1, h2⟩ := h
    cases e with
    | tup es =>
      rw [HasD] at k
      obtain ⟨b, ys, z, k1, k2⟩ := k
      cases z
      have e := I.tuple_inj k1 h1
      subst e
      rw [eqD]
      exact hasDs_same I ds es _ h2 k2
    | lst es =>
      rw [HasD] at k
      obtain ⟨b, ys, z, k1, k2⟩ := k
      cases z
      exact (list_not_tuple I k1 h1).elim
    | non => rw [HasD] at k; cases k
    | bl b => rw [HasD] at k; cases k
    | int b => rw [HasD] at k; cases k
    | str b => rw [HasD] at k; cases k
  | .lst ds, e, x, h, k => by
    rw [HasD] at h
    obtain ⟨a, xs, rfl, h1, h2⟩ := h
    cases e with
    | lst es =>
      rw [HasD] at k
      obtain ⟨b, ys, z, k1, k2⟩ := k
      cases z
      have e := I.list_inj k1 h1
      subst e
      rw [eqD]
      exact hasDs_same I ds es _ h2 k2
    | tup es =>
      rw [HasD] at k
      obtain ⟨b, ys, z, k1, k2⟩ := k
      cases z
      exact (list_not_tuple I h1 k1).elim
    | non => rw [HasD] at k; cases k
    | bl b => rw [HasD] at k; cases k
    | int b => rw [HasD] at k; cases k
    | str b => rw [HasD] at k; cases k
theorem hasDs_same (I : Inv X pins σ H s) : ∀ (ds es : List Dt) (xs : List V), HasDs X.K H ds xs → HasDs X.K H es xs → eqDs ds es = true
  | [], es, xs, h, k => by
    rw [HasDs] at h
    subst h
    cases es with
    | nil => rw [eqDs]
    | cons e es =>
      rw [HasDs] at k
      obtain ⟨_, _, z, _⟩ := k
      cases z
  | d :: ds, es, xs, h, k => by
    rw [HasDs] at h
    obtain ⟨x, r, rfl, h1, h2⟩ := h
    cases es with
    | nil => rw [HasDs] at k; cases k
    | cons e es =>
      rw [HasDs] at k
      obtain ⟨y, r', z, k1, k2⟩ := k
      cases z
      rw [eqDs, hasD_same I d e _ h1 k1, hasDs_same I ds es _ h2 k2]
      rfl
end

/-- the items of two sequences, one by one -/
theorem items_eqAt {A : Around} {ds es : List Dt} {xs ys : List V} {is js : List Value} (hd : HasDs X.K H ds xs) (he : HasDs X.K H es ys) (vi : Vals xs is) (vj : Vals ys js)
    (rec : ∀ d e x y u v, d ∈ ds → depD d ≤ depDs ds → HasD X.K H d x → HasD X.K H e y → RelV x u → RelV y v → SeqAt.EqAt A s u v (eqD d e)) :
    ∀ j (h1 : j < is.toArray.size) (h2 : j < js.toArray.size), SeqAt.EqAt A s is.toArray[j] js.toArray[j] (eqAtI ds es j) := fun j h1 h2 => by
  have h1' : j < is.length := by simpa using h1
  have h2' : j < js.length := by simpa using h2
  have lx : j < xs.length := by rw [vi.length]; exact h1'
  have ly : j < ys.length := by rw [vj.length]; exact h2'
  obtain ⟨u, eu, ru⟩ := vi.get (i := j) (x := xs[j]) (by simp [lx])
  obtain ⟨v, ev, rv⟩ := vj.get (i := j) (x := ys[j]) (by simp [ly])
  obtain ⟨d, ed, kd⟩ := hd.get (j := j) (x := xs[j]) (by simp [lx])
  obtain ⟨e, ee, ke⟩ := he.get (j := j) (x := ys[j]) (by simp [ly])
  have e1 : is.toArray[j] = u := by
    rw [List.getElem?_eq_getElem h1'] at eu
    simpa using eu
  have e2 : js.toArray[j] = v := by
    rw [List.getElem?_eq_getElem h2'] at ev
    simpa using ev
  have e3 : eqAtI ds es j = eqD d e := by simp [eqAtI, ed, ee]
  rw [e1, e2, e3]
  exact rec d e _ _ u v (List.mem_of_getElem? ed) (dep_get ed) kd ke ru rv
theorem same_len {ds es : List Dt} {xs ys : List V} {is js : List Value} (hd : HasDs X.K H ds xs) (he : HasDs X.K H es ys) (vi : Vals xs is) (vj : Vals ys js) : ds.length = is.toArray.size ∧ es.length = js.toArray.size := by
  rw [hd.length, he.length, vi.length, vj.length]
  simp
theorem lists_all {ds es : List Dt} (h : ds.length = es.length) : (List.range ds.length).all (eqAtI ds es) = eqDs ds es := by
  have q := range_eqDs ds es
  rw [← h, Nat.min_self, beq_self_eq_true, Bool.and_true] at q
  exact q
theorem lists_no {ds es : List Dt} (h : ds.length ≠ es.length) : eqDs ds es = false := by
  have q := range_eqDs ds es
  rw [show (ds.length == es.length) = false from by simpa using h, Bool.and_false] at q
  exact q.symm

theorem eqAt_D (I : Inv X pins σ H s) : ∀ (n : Nat) (d e : Dt) (x y : V) (u v : Value) (A : Around), depD d ≤ n → A.units + n < cLine → HasD X.K H d x → HasD X.K H e y → RelV x u → RelV y v → SeqAt.EqAt A s u v (eqD d e) := by
  intro n
  induction n with
  | zero =>
    intro d e x y u v A hn hu hd he ru rv
    have hu' : A.units < cLine := by omega
    cases d with
    | tup ds => rw [depD] at hn; omega
    | lst ds => rw [depD] at hn; omega
    | non =>
      rw [HasD] at hd; subst hd; cases ru
      cases e <;> rw [HasD] at he
      case non => subst he; cases rv; exact SeqAt.EqAt.same _
      case bl b => subst he; cases rv; exact SeqAt.EqAt.none_bool b
      case int b => subst he; obtain ⟨t, rfl⟩ := rv; exact SeqAt.EqAt.none_int b t
      case str b => subst he; obtain ⟨t, rfl⟩ := rv; exact SeqAt.EqAt.none_str b t
      case tup es => obtain ⟨b, ys, rfl, k1, k2⟩ := he; cases rv; obtain ⟨js, vj, pj, _⟩ := I.tuple k1; exact SeqAt.EqAt.none_tuple pj hu'
      case lst es => obtain ⟨b, ys, rfl, k1, k2⟩ := he; cases rv; obtain ⟨js, vj, pj, _⟩ := I.list k1; exact SeqAt.EqAt.none_list pj.isList hu'
    | bl a =>
      rw [HasD] at hd; subst hd; cases ru
      cases e <;> rw [HasD] at he
      case non => subst he; cases rv; exact SeqAt.EqAt.bool_none a
      case bl b => subst he; cases rv; exact SeqAt.EqAt.bool_bool a b
      case int b => subst he; obtain ⟨t, rfl⟩ := rv; exact SeqAt.EqAt.bool_int a b t
      case str b => subst he; obtain ⟨t, rfl⟩ := rv; exact SeqAt.EqAt.bool_str a b t
      case tup es => obtain ⟨b, ys, rfl, k1, k2⟩ := he; cases rv; obtain ⟨js, vj, pj, _⟩ := I.tuple k1; exact SeqAt.EqAt.bool_tuple a pj hu'
      case lst es => obtain ⟨b, ys, rfl, k1, k2⟩ := he; cases rv; obtain ⟨js, vj, pj, _⟩ := I.list k1; exact SeqAt.EqAt.bool_list a pj.isList hu'
    | int a =>
      rw [HasD] at hd; subst hd; obtain ⟨t0, rfl⟩ := ru
      cases e <;> rw [HasD] at he
      case non => subst he; cases rv; exact SeqAt.EqAt.int_none a t0
      case bl b => subst he; cases rv; exact SeqAt.EqAt.int_bool a t0 b
      case int b => subst he; obtain ⟨t, rfl⟩ := rv; exact SeqAt.EqAt.int_int a t0 b t
      case str b => subst he; obtain ⟨t, rfl⟩ := rv; exact SeqAt.EqAt.int_str a t0 b t
      case tup es => obtain ⟨b, ys, rfl, k1, k2⟩ := he; cases rv; obtain ⟨js, vj, pj, _⟩ := I.tuple k1; exact SeqAt.EqAt.int_tuple a t0 pj hu'
      case lst es => obtain ⟨b, ys, rfl, k1, k2⟩ := he; cases rv; obtain ⟨js, vj, pj, _⟩ := I.list k1; exact SeqAt.EqAt.int_list a t0 pj.isList hu'
    | str a =>
      rw [HasD] at hd; subst hd; obtain ⟨t0, rfl⟩ := ru
      cases e <;> rw [HasD] at he
      case non => subst he; cases rv; exact SeqAt.EqAt.str_none a t0
      case bl b => subst he; cases rv; exact SeqAt.EqAt.str_bool a t0 b
      case int b => subst he; obtain ⟨t, rfl⟩ := rv; exact SeqAt.EqAt.str_int a t0 b t
      case str b => subst he; obtain ⟨t, rfl⟩ := rv; exact SeqAt.EqAt.str_str a t0 b t
      case tup es => obtain ⟨b, ys, rfl, k1, k2⟩ := he; cases rv; obtain ⟨js, vj, pj, _⟩ := I.tuple k1; exact SeqAt.EqAt.str_tuple a t0 pj hu'
      case lst es => obtain ⟨b, ys, rfl, k1, k2⟩ := he; cases rv; obtain ⟨js, vj, pj, _⟩ := I.list k1; exact SeqAt.EqAt.str_list a t0 pj.isList hu'
  | succ n ih =>
    intro d e x y u v A hn hu hd he ru rv
    have hu' : A.units < cLine := by omega
    have hu1 : A.in1.units + n < cLine := by rw [units_in1]; omega
    cases d with
    | tup ds =>
      rw [depD] at hn
      have hd0 := hd
      rw [HasD] at hd
      obtain ⟨a, xs, rfl, k1, k2⟩ := hd
      cases ru
      obtain ⟨is, vi, pi, _⟩ := I.tuple k1
      cases e with
      | tup es =>
        have he0 := he
        rw [HasD] at he
        obtain ⟨b, ys, rfl, l1, l2⟩ := he
        cases rv
        obtain ⟨js, vj, pj, _⟩ := I.tuple l1
        by_cases hab : a = b
        · subst hab
          rw [hasD_same I _ _ _ hd0 he0]
          exact SeqAt.EqAt.same _
        · have q := SeqAt.RcAt.tuples (A := A) pi pj hu' (items_eqAt k2 l2 vi vj fun d e x y u v _ hdd => ih d e x y u v A.in1 (by omega) hu1)
          obtain ⟨z1, z2⟩ := same_len k2 l2 vi vj
          rw [← z1, ← z2, range_eqDs] at q
          rw [eqD]
          exact SeqAt.EqAt.of_refs hab q
      | lst es => rw [HasD] at he; obtain ⟨b, ys, rfl, l1, l2⟩ := he; cases rv; obtain ⟨js, vj, pj, _⟩ := I.list l1; exact SeqAt.EqAt.tuple_list pi pj.isList hu'
      | non => rw [HasD] at he; subst he; cases rv; exact SeqAt.EqAt.tuple_none pi hu'
      | bl b => rw [HasD] at he; subst he; cases rv; exact SeqAt.EqAt.tuple_bool b pi hu'
      | int b => rw [HasD] at he; subst he; obtain ⟨t, rfl⟩ := rv; exact SeqAt.EqAt.tuple_int b t pi hu'
      | str b => rw [HasD] at he; subst he; obtain ⟨t, rfl⟩ := rv; exact SeqAt.EqAt.tuple_str b t pi hu'
    | lst ds =>
      rw [depD] at hn
      have hd0 := hd
      rw [HasD] at hd
      obtain ⟨a, xs, rfl, k1, k2⟩ := hd
      cases ru
      obtain ⟨is, vi, pi, _⟩ := I.list k1
      cases e with
      | lst es =>
        have he0 := he
        rw [HasD] at he
        obtain ⟨b, ys, rfl, l1, l2⟩ := he
        cases rv
        obtain ⟨js, vj, pj, _⟩ := I.list l1
        obtain ⟨z1, z2⟩ := same_len k2 l2 vi vj
        by_cases hab : a = b
        · subst hab
          rw [hasD_same I _ _ _ hd0 he0]
          exact SeqAt.EqAt.same _
        · rw [eqD]
          by_cases hsz : ds.length = es.length
          · have q := SeqAt.RcAt.lists (A := A) pi.isList pj.isList (by omega) hu' (items_eqAt k2 l2 vi vj fun d e x y u v _ hdd => ih d e x y u v A.in1 (by omega) hu1)
            rw [← z1, lists_all hsz] at q
            exact SeqAt.EqAt.of_refs hab q
          · rw [lists_no hsz]
            exact SeqAt.EqAt.of_refs hab (SeqAt.RcAt.lists_lengths pi.isList pj.isList (by rw [← z1, ← z2]; simpa using hsz) hu')
      | tup es => rw [HasD] at he; obtain ⟨b, ys, rfl, l1, l2⟩ := he; cases rv; obtain ⟨js, vj, pj, _⟩ := I.tuple l1; exact SeqAt.EqAt.list_tuple pi.isList pj hu'
      | non => rw [HasD] at he; subst he; cases rv; exact SeqAt.EqAt.list_none pi.isList hu'
      | bl b => rw [HasD] at he; subst he; cases rv; exact SeqAt.EqAt.list_bool b pi.isList hu'
      | int b => rw [HasD] at he; subst he; obtain ⟨t, rfl⟩ := rv; exact SeqAt.EqAt.list_int b t pi.isList hu'
      | str b => rw [HasD] at he; subst he; obtain ⟨t, rfl⟩ := rv; exact SeqAt.EqAt.list_str b t pi.isList hu'
    | non => exact ih _ _ _ _ _ _ _ (Nat.zero_le n) (by omega) hd he ru rv
    | bl b => exact ih _ _ _ _ _ _ _ (Nat.zero_le n) (by omega) hd he ru rv
    | int b => exact ih _ _ _ _ _ _ _ (Nat.zero_le n) (by omega) hd he ru rv
    | str b => exact ih _ _ _ _ _ _ _ (Nat.zero_le n) (by omega) hd he ru rv
end
end L2
namespace L2
open PySem PySem.Spec PyProof.Rows
section
variable {X : Cx} {pins : List (Addr × Obj)} {σ : St} {H : Hp} {s : Shared}
theorem rcNeAt_D (I : Inv X pins σ H s) {n : Nat} {d e : Dt} {x y : V} {u v : Value} {A : Around} (hn : depD d ≤ n) (hu : A.units + n < cLine) (hd : HasD X.K H d x) (he : HasD X.K H e y) (ru : RelV x u) (rv : RelV y v) : SeqAt.RcNeAt A s u v (!(eqD d e)) := by
  have hu' : A.units < cLine := by omega
  cases d with
  | non =>
    rw [HasD] at hd; subst hd; cases ru
    cases e <;> rw [HasD] at he
    case non => subst he; cases rv; exact SeqAt.RcNeAt.none_none
    case bl b => subst he; cases rv; exact SeqAt.RcNeAt.none_bool b
    case int b => subst he; obtain ⟨t, rfl⟩ := rv; exact SeqAt.RcNeAt.none_int b t
    case str b => subst he; obtain ⟨t, rfl⟩ := rv; exact SeqAt.RcNeAt.none_str b t
    case tup es => obtain ⟨b, ys, rfl, k1, k2⟩ := he; cases rv; obtain ⟨js, vj, pj, _⟩ := I.tuple k1; exact SeqAt.RcNeAt.none_tuple pj hu'
    case lst es => obtain ⟨b, ys, rfl, k1, k2⟩ := he; cases rv; obtain ⟨js, vj, pj, _⟩ := I.list k1; exact SeqAt.RcNeAt.none_list pj.isList hu'
  | bl a =>
    rw [HasD] at hd; subst hd; cases ru
    cases e <;> rw [HasD] at he
    case non => subst he; cases rv; exact SeqAt.RcNeAt.bool_none a
    case bl b => subst he; cases rv; exact SeqAt.RcNeAt.bool_bool a b
    case int b => subst he; obtain ⟨t, rfl⟩ := rv; exact SeqAt.RcNeAt.bool_int a b t
    case str b => subst he; obtain ⟨t, rfl⟩ := rv; exact SeqAt.RcNeAt.bool_str a b t
    case tup es => obtain ⟨b, ys, rfl, k1, k2⟩ := he; cases rv; obtain ⟨js, vj, pj, _⟩ := I.tuple k1; exact SeqAt.RcNeAt.bool_tuple a pj hu'
    case lst es => obtain ⟨b, ys, rfl, k1, k2⟩ := he; cases rv; obtain ⟨js, vj, pj, _⟩ := I.list k1; exact SeqAt.RcNeAt.bool_list a pj.isList hu'
  | int a =>
    rw [HasD] at hd; subst hd; obtain ⟨t0, rfl⟩ := ru
    cases e <;> rw [HasD] at he
    case non => subst he; cases rv; exact SeqAt.RcNeAt.int_none a t0
    case bl b => subst he; cases rv; exact SeqAt.RcNeAt.int_bool a t0 b
    case int b => subst he; obtain ⟨t, rfl⟩ := rv; exact SeqAt.RcNeAt.int_int a t0 b t
    case str b => subst he; obtain ⟨t, rfl⟩ := rv; exact SeqAt.RcNeAt.int_str a t0 b t
    case tup es => obtain ⟨b, ys, rfl, k1, k2⟩ := he; cases rv; obtain ⟨js, vj, pj, _⟩ := I.tuple k1; exact SeqAt.RcNeAt.int_tuple a t0 pj hu'
    case lst es => obtain ⟨b, ys, rfl, k1, k2⟩ := he; cases rv; obtain ⟨js, vj, pj, _⟩ := I.list k1; exact SeqAt.RcNeAt.int_list a t0 pj.isList hu'
  | str a =>
    rw [HasD] at hd; subst hd; obtain ⟨t0, rfl⟩ := ru
    cases e <;> rw [HasD] at he
    case non => subst he; cases rv; exact SeqAt.RcNeAt.str_none a t0
    case bl b => subst he; cases rv; exact SeqAt.RcNeAt.str_bool a t0 b
    case int b => subst he; obtain ⟨t, rfl⟩ := rv; exact SeqAt.RcNeAt.str_int a t0 b t
    case str b => subst he; obtain ⟨t, rfl⟩ := rv; exact SeqAt.RcNeAt.str_str a t0 b t
    case tup es => obtain ⟨b, ys, rfl, k1, k2⟩ := he; cases rv; obtain ⟨js, vj, pj, _⟩ := I.tuple k1; exact SeqAt.RcNeAt.str_tuple a t0 pj hu'
    case lst es => obtain ⟨b, ys, rfl, k1, k2⟩ := he; cases rv; obtain ⟨js, vj, pj, _⟩ := I.list k1; exact SeqAt.RcNeAt.str_list a t0 pj.isList hu'
  | tup ds =>
    rw [depD] at hn
    have hu1 : A.in1.units + (n - 1) < cLine := by rw [units_in1]; omega
    rw [HasD] at hd
    obtain ⟨a, xs, rfl, k1, k2⟩ := hd
    cases ru
    obtain ⟨is, vi, pi, _⟩ := I.tuple k1
    cases e with
    | tup es =>
      rw [HasD] at he
      obtain ⟨b, ys, rfl, l1, l2⟩ := he
      cases rv
      obtain ⟨js, vj, pj, _⟩ := I.tuple l1
      have q := SeqAt.RcNeAt.tuples (A := A) pi pj hu' (items_eqAt k2 l2 vi vj fun d e x y u v _ hdd => eqAt_D I (n - 1) d e x y u v A.in1 (by omega) hu1)
      obtain ⟨z1, z2⟩ := same_len k2 l2 vi vj
      rw [← z1, ← z2, range_eqDs] at q
      rw [eqD]
      exact q
    | lst es => rw [HasD] at he; obtain ⟨b, ys, rfl, l1, l2⟩ := he; cases rv; obtain ⟨js, vj, pj, _⟩ := I.list l1; exact SeqAt.RcNeAt.tuple_list pi pj.isList hu'
    | non => rw [HasD] at he; subst he; cases rv; exact SeqAt.RcNeAt.tuple_none pi hu'
    | bl b => rw [HasD] at he; subst he; cases rv; exact SeqAt.RcNeAt.tuple_bool b pi hu'
    | int b => rw [HasD] at he; subst he; obtain ⟨t, rfl⟩ := rv; exact SeqAt.RcNeAt.tuple_int b t pi hu'
    | str b => rw [HasD] at he; subst he; obtain ⟨t, rfl⟩ := rv; exact SeqAt.RcNeAt.tuple_str b t pi hu'
  | lst ds =>
    rw [depD] at hn
    have hu1 : A.in1.units + (n - 1) < cLine := by rw [units_in1]; omega
    rw [HasD] at hd
    obtain ⟨a, xs, rfl, k1, k2⟩ := hd
    cases ru
    obtain ⟨is, vi, pi, _⟩ := I.list k1
    cases e with
    | lst es =>
      rw [HasD] at he
      obtain ⟨b, ys, rfl, l1, l2⟩ := he
      cases rv
      obtain ⟨js, vj, pj, _⟩ := I.list l1
      obtain ⟨z1, z2⟩ := same_len k2 l2 vi vj
      rw [eqD]
      by_cases hsz : ds.length = es.length
      · have q := SeqAt.RcNeAt.lists (A := A) pi.isList pj.isList (by omega) hu' (items_eqAt k2 l2 vi vj fun d e x y u v _ hdd => eqAt_D I (n - 1) d e x y u v A.in1 (by omega) hu1)
        rw [← z1, lists_all hsz] at q
        exact q
      · rw [lists_no hsz]
        exact SeqAt.RcNeAt.lists_lengths pi.isList pj.isList (by rw [← z1, ← z2]; simpa using hsz) hu'
    | tup es => rw [HasD] at he; obtain ⟨b, ys, rfl, l1, l2⟩ := he; cases rv; obtain ⟨js, vj, pj, _⟩ := I.tuple l1; exact SeqAt.RcNeAt.list_tuple pi.isList pj hu'
    | non => rw [HasD] at he; subst he; cases rv; exact SeqAt.RcNeAt.list_none pi.isList hu'
    | bl b => rw [HasD] at he; subst he; cases rv; exact SeqAt.RcNeAt.list_bool b pi.isList hu'
    | int b => rw [HasD] at he; subst he; obtain ⟨t, rfl⟩ := rv; exact SeqAt.RcNeAt.list_int b t pi.isList hu'
    | str b => rw [HasD] at he; subst he; obtain ⟨t, rfl⟩ := rv; exact SeqAt.RcNeAt.list_str b t pi.isList hu'
end
def rNeD (K : PySem.W.Frag) : R2 := fun x y H Q => ∃ d e, HasD K H d x ∧ HasD K H e y ∧ depD d ≤ 60 ∧ Q (.bl (!eqD d e)) H
section
variable {X : Cx}
theorem op_neD (hu : X.A.units + 64 < cLine) : OpR X (compareOp .NotEq) (rNeD X.K) := by
  intro pins s σ H x y v u Q I rx ry h
  obtain ⟨d, e, hd, he, hn, q⟩ := h
  exact rcNeAt_D I hn (by omega) hd he rx ry _ _ _ _ ⟨.bl _, H, I, rfl, q⟩
end
/-! ### data that hold ints -/
theorem hasDs_ints (K : PySem.W.Frag) (H : Hp) : ∀ ns : List Int, HasDs K H (ns.map Dt.int) (ns.map V.int)
  | [] => by rw [List.map_nil, List.map_nil, HasDs]
  | n :: ns => by
    rw [List.map_cons, List.map_cons, HasDs]
    exact ⟨_, _, rfl, by rw [HasD], hasDs_ints K H ns⟩
theorem hasD_listI {K : PySem.W.Frag} {H : Hp} {a : Addr} {ns : List Int} (h : SqL K H a (ns.map V.int)) : HasD K H (.lst (ns.map Dt.int)) (.ref a) := by
  rw [HasD]
  exact ⟨a, _, rfl, h, hasDs_ints K H ns⟩
theorem depDs_ints : ∀ ns : List Int, depDs (ns.map Dt.int) = 0
  | [] => by rw [List.map_nil, depDs]
  | n :: ns => by
    show max (depD (Dt.int n)) (depDs (ns.map Dt.int)) = 0
    rw [depDs_ints ns]
    rfl
theorem eqDs_ints : ∀ ms ns : List Int, eqDs (ms.map Dt.int) (ns.map Dt.int) = decide (ms = ns)
  | [], [] => by simp [eqDs]
  | [], n :: ns => by simp [eqDs]
  | m :: ms, [] => by simp [eqDs]
  | m :: ms, n :: ns => by
    rw [List.map_cons, List.map_cons, eqDs, eqDs_ints ms ns, eqD]
    by_cases h : m = n
    · subst h; simp
    · simp [h]
theorem eqD_listI (ms ns : List Int) : eqD (.lst (ms.map Dt.int)) (.lst (ns.map Dt.int)) = decide (ms = ns) := by rw [eqD, eqDs_ints]
theorem dep_listI (ns : List Int) : depD (.lst (ns.map Dt.int)) ≤ 60 := by rw [depD, depDs_ints]; decide
end L2
/-! OWN RULES: an item for op=, keywords, defaults of keyword parameters -/
namespace L2
open PySem PySem.Spec PyProof.Rows
section
variable {X : Cx}
end
def kb11 {α : Type} : List α → List α → List α
  | [u0], [w0] => [u0, w0]
  | _, _ => []
theorem kb_rel11 {vs : List V} {us : List Value} {zs : List V} {ws : List Value} (r1 : Vals vs us) (r2 : Vals zs ws) : Vals (kb11 vs zs) (kb11 us ws) := by
  cases r1 with
  | nil => exact .nil
  | cons a ra =>
    cases ra with
    | nil =>
      cases r2 with
      | nil => exact .nil
      | cons b rb =>
        cases rb with
        | nil => exact .cons a (.cons b .nil)
        | cons _ _ => exact .nil
    | cons _ _ => exact .nil
end L2
/-! OWN RULES: exceptions that leave a def -/
namespace L2
open PySem PySem.Spec PyProof.Rows

theorem ObjOk.there {P : Program} {w : World} {H : Hp} {h : Heap} {a : Addr} {o : HO} (x : ObjOk P w H h a o) : ∃ ob, h.get? a = some ob := by
  cases o with
  | lst xs => obtain ⟨_, _, _, _, e⟩ := x; exact ⟨_, e⟩
  | tup xs => obtain ⟨_, _, _, p⟩ := x; obtain ⟨o, e, _⟩ := p; exact ⟨_, e⟩
  | dK kvs => obtain ⟨_, _, _, _, o, _, _, e, _⟩ := x; exact ⟨_, e⟩
  | dT kvs => obtain ⟨_, _, _, _, o, _, _, e, _⟩ := x; exact ⟨_, e⟩
  | set S n => obtain ⟨o, _, _, _, e, _⟩ := x; exact ⟨_, e⟩
  | ins C dx fs => obtain ⟨_, _, _, e, _⟩ := x; exact ⟨_, e⟩
  | own y => obtain ⟨_, e⟩ := x; exact ⟨_, e⟩
  | xd fs => obtain ⟨_, ⟨_, _, _, e, _⟩, _⟩ := x; exact ⟨_, e⟩
  | rng lo hi => obtain ⟨_, _, _, e⟩ := x; exact ⟨_, e⟩
  | frz ob u => obtain ⟨e, _⟩ := x; exact ⟨_, e⟩
  | tbl ps => exact ⟨_, (show h.get? a = some _ from x)⟩
  | met f y => exact ⟨_, (show h.get? a = some _ from x)⟩
  | ext φ => obtain ⟨_, ⟨_, e⟩, _⟩ := x; exact ⟨_, e⟩

/-- an exception on its way to the frames l, from the state of the call -/
structure Fly (P : Program) (w : World) (l : List Env) (H H' : Hp) (s s' : Shared) (ea : Addr) (cls : Value) : Prop where
  os : s'.os = s.os
  bare : AllBare s'.gens
  un : Un (frs l) [] H H' s.heap s'.heap
  hok : HOk P w H' s'.heap
  fly : ∃ (B : Heap) (t : Addr), Heap.FlyingW B l ea cls (.ref t) s'.heap ∧ (∀ b o o', s.heap.get? b = some o → s'.heap.get? b = some o' → b ∉ frs l → B.get? b = some o') ∧ (∀ b u o', H' b = some u → s'.heap.get? b = some o' → B.get? b = some o')
  new : s.heap.get? ea = none
section
variable {X : Cx} {pins : List (Addr × Obj)} {σ : St} {H H' : Hp} {s s' : Shared} {ea : Addr} {cls : Value}
theorem Inv.stkNe (I : Inv X pins σ H s) {b : Addr} {o : Obj} (e : X.s₀.heap.get? b = some o) (hb : b ∉ X.fs) : b ∉ frs X.stack := fun z => by
  rcases List.mem_cons.mp (I.stkSub b z) with q | q
  · have h1 : @LT.lt Nat _ b X.s₀.heap.objs.size := Heap.lt_size e
    have h2 : @LE.le Nat _ X.s₀.heap.objs.size X.env.locals := I.ok.above
    have h3 : @Eq Nat b X.env.locals := q
    omega
  · exact hb q
end

section
variable {P : Program} {w : World} {K : PySem.W.Frag} {mg : Str → Option Value} {base : Heap} {N : List Str} {qual : Str} {scope : Scope} {f : Addr} {cd : Value} {A : Around} {outer : List Env} {s : Shared} {H : Hp} {E : XK}
end
end L2
/-! OWN RULES: raise, calls whose exceptions are caught, try .. except C as n -/
namespace L2
open PySem PySem.Spec PyProof.Rows

/-- an own exception class over ValueError, without an __init__ of its own -/
def vErr : List Value := [.type "ValueError", .type "Exception", .type "BaseException", .type "object"]
def XCls (K : PySem.W.Frag) (C : Addr) : Prop := PySem.W.excIn K C vErr "ValueError.__new__" = true
theorem exc_obj {K : PySem.W.Frag} {h : Heap} {C : Addr} {bmB : List Value} {newId : String} (X : K.In h) (q : PySem.W.excIn K C bmB newId = true) :
    ∃ bm N nm qn bs hdct sn sub ab col dd k0 k1 k2 k3 k5 mN, h.get? C = some (excClassObj nm qn C N bs bm hdct sn sub ab col dd k0 k1 k2 k3 k5 newId) ∧ h.Ns N mN ∧ mN "__init__" = none ∧ OwnTail h bmB bm := by
  unfold PySem.W.excIn at q
  split at q
  · rename_i dd cd sl ho
    split at q
    · rename_i C' bm k0 k1 k2 k3 n k5 hm hs
      simp only [Bool.and_eq_true, beq_iff_eq, Bool.not_eq_true'] at q
      obtain ⟨⟨⟨⟨⟨rfl, rfl⟩, hdel⟩, ht⟩, hok⟩, hni⟩ := q
      obtain ⟨nm, bs, mro, ns, qn, hd, sn, sub, ab, col, del⟩ := cd
      dsimp only at hm hdel hok hni
      subst hm hdel
      have hsl : sl = #[k0, k1, k2, k3, some (.builtin n), k5] := by
        obtain ⟨l⟩ := sl
        simp only at hs
        rw [hs]
      subst hsl
      exact ⟨bm, ns, nm, qn, bs, hd, sn, sub, ab, col, dd, k0, k1, k2, k3, k5, _, X _ _ ho, .of_isNs (PySem.W.isNs_of_in X hok), PySem.W.nsMap_none_of_in X hok hni, PySem.W.tail_of_in X ht⟩
    · cases q
  · cases q

theorem looks_exc {K : PySem.W.Frag} {M : Model} {h : Heap} {ea C Pc : Addr} {oe : Obj} {b : Bool} (X : K.In h) (he : h.get? ea = some oe) (hc : oe.cls = .ref C) (m : PySem.W.kitCls K (.ref C) (.ref Pc) = some b) (hb : PySem.W.mroIn K Pc (.type "BaseException") = some true) :
    PySem.W.Looks M h (excMatches (.ref ea) (.ref Pc)) b := by
  obtain ⟨L1, L2, L3⟩ := PySem.W.kit_cls (M := M) X m
  have L4 := PySem.W.looks_mroIn (M := M) X hb
  have L5 : PySem.W.Looks M h (typeOf (.ref ea)) (.ref C) := hc ▸ (PySem.W.Looks.ld he).andThen .now
  have f := tc_notTuple
  intro A Q E s k q
  unfold excMatches isInstance isExcClass
  simp only [bind_assoc]
  refine wpAny_bind (L1 A _ E s k ?_)
  rw [f]
  simp only [pure_bind, Bool.false_eq_true, if_false, List.forIn_cons, List.forIn_nil, bind_assoc]
  refine wpAny_bind (L2 A _ E s k ?_)
  simp only [if_true]
  refine wpAny_bind (L4 A _ E s k ?_)
  simp only [Bool.not_true, Bool.false_eq_true, if_false, pure_bind]
  refine wpAny_bind (L5 A _ E s k ?_)
  refine wpAny_bind (L3 A _ E s k ?_)
  cases b
  · exact wpAny_pure q
  · exact wpAny_pure q
/-- raise C(..) -/
def tRaise (W : Hp → Prop) (t : TA) : TS := fun _ σ H => t σ H fun vs H1 => vs.length ≤ sizeLine ∧ W H1
section
variable {X : Cx}
theorem ps_raise {x : Str} {C : Addr} {e : Expr} {es : List Expr} {t : TA} {np cpos pos : Pos} {W : Hp → Prop} (hc : X.calm = true) (hg : Gl X x) (hm : X.mg x = some (.ref C)) (hC : XCls X.K C) (ha : PA X (e :: es) t)
    (hxe : ∀ {pins : List (Addr × Obj)} {σ : St} {H : Hp} {s : Shared} {ea : Addr} {vs : List Value} {h1 : Heap}, Inv X pins σ H s → Heap.MadeExcOf s.heap h1 ea (.ref C) vs → W H → X.xe (.ref ea) { s with heap := h1 })
    (hdb : (x == ("__debug__" : Str)) = false := by decide) (he : starEach (e :: es) X.env = (false, eval e X.env) :: starEach es X.env := by rfl) (hpl : (backTo cpos (starEach es X.env)).any (·.1) = false := by rfl) :
    PS X (.Raise (some (.Call (.Name x np) (e :: es) [] cpos)) none pos) (tRaise W t) := by
  intro pins s σ H D I h
  obtain ⟨bm, N, nm, qn, bs, hdct, sn, sub, ab, col, dd, k0, k1, k2, k3, k5, mN, hC, hN, hni, T⟩ := exc_obj I.mod.kin hC
  have FB := F.excBase_ValueError
  refine wpAny_Raise_call_subT (C := C) (nm := nm) (q := qn) (N := N) (bs := bs) (bm := bm) (hdct := hdct) (sn := sn) (sub := sub) (ab := ab) (col := col) (dd := dd) (k0 := k0) (k1 := k1) (k2 := k2) (k3 := k3) (k5 := k5)
    FB (mN := mN) (T.hasType FB.hasBase) (I.ok.hd hc) (by rw [he]; show (false || (backTo cpos (starEach es X.env)).any (·.1)) = false; rw [hpl]; rfl) hni (ld_glob I hg hm ⟨rfl, ?_⟩ hdb)
  have hA := ha cpos pins s σ H _ I h
  rw [he] at hA ⊢
  exact Calls.evalArgs_plain (thn hA fun us s2 ⟨vs, H2, I2, r2, hz, q2⟩ => ⟨rfl, by rw [← r2.length]; exact hz, I2.bk _ _ hC, hN.keeps I2.bk, T.keeps I2.bk, fun h' e hm => hxe I2 hm q2⟩)
end

/-- the context of a handler's suite -/
def hndCx (X : Cx) (ea : Addr) : Cx := { X with A := X.A.mark (some (.ref ea)), calm := false, xe := fun _ _ => False }
/-- an exception object, by its class -/
def IsExc (ea : Addr) (cls : Value) : HO := .ext fun h => ∃ o vs, h.get? ea = some o ∧ o.cls = cls ∧ o.data = .fields vs

section
variable {X : Cx} {pins pn : List (Addr × Obj)} {σ : St} {H H' : Hp} {s s' : Shared}
theorem Inv.recx {X Y : Cx} (I : Inv X pins σ H s) (ok : Y.Ok) (hs : Y.s₀ = X.s₀) (hH : Y.H₀ = X.H₀) (he : Y.env = X.env) (ho : Y.outer = X.outer) (hx : Y.ex = X.ex) (hN : Y.N = X.N) (hp : Y.prog = X.prog) (hw : Y.w = X.w)
    {pins' : List (Addr × Obj)} (hpin : ∀ p ∈ Y.pn ++ pins', p ∈ X.pn ++ pins) : Inv Y pins' σ H s := by
  obtain ⟨prog, w, K, mg, base, A, N, s₀, H₀, env, outer, stack, ex, fn, calm, pnX, xe⟩ := X
  obtain ⟨prog', w', K', mg', base', A', N', s₀', H₀', env', outer', stack', ex', fn', calm', pnY, xe'⟩ := Y
  dsimp only at hs hH he ho hx hN hp hw
  subst hs hH he ho hx hN hp hw
  exact ⟨ok, I.os, I.bare, I.base, I.loc, I.cell, I.free, I.freeC, fun p hp => I.pin p (hpin p hp), I.hok, I.len⟩
theorem Cx.Ok.recx {X Y : Cx} (ok : X.Ok) (hm : Y.K = X.K ∧ Y.mg = X.mg ∧ Y.base = X.base) (he : Y.env = X.env) (hs : Y.s₀ = X.s₀) (hH : Y.H₀ = X.H₀) (ho : Y.outer = X.outer) (hst : Y.stack = X.stack) (hx : Y.ex = X.ex) (hf : Y.fn = X.fn)
    (hd : Y.calm = true → Y.A.handled = none) (hfr : Y.A.frames = some Y.stack) : Y.Ok := by
  obtain ⟨prog, w, K, mg, base, A, N, s₀, H₀, env, outer, stack, ex, fn, calm, pnX, xe⟩ := X
  obtain ⟨prog', w', K', mg', base', A', N', s₀', H₀', env', outer', stack', ex', fn', calm', pnY, xe'⟩ := Y
  obtain ⟨hm1, hm2, hm3⟩ := hm
  dsimp only at hm1 hm2 hm3 he hs hH ho hst hx hf
  subst hm1 hm2 hm3 he hs hH ho hst hx hf
  exact ⟨ok.mod, ok.kind, ok.glob, ok.blt, ok.above, ok.inj, ok.has, ok.cab, hd, hfr, ok.stk, ok.exf, ok.bs, ok.bsz, ok.noex, ok.exfs, ok.funs, ok.frf⟩
theorem Inv.backPn {pins' : List (Addr × Obj)} (I : Inv { X with pn := pn } pins' σ H s) (h : ∀ p ∈ X.pn ++ pins, p ∈ pn) : Inv X pins σ H s :=
  I.recx (Y := X) (I.ok.recx (Y := X) ⟨rfl, rfl, rfl⟩ rfl rfl rfl rfl rfl rfl rfl I.ok.hd I.ok.frames) rfl rfl rfl rfl rfl rfl rfl rfl fun p hp => List.mem_append_left _ (h p hp)
theorem Inv.toHnd {ea : Addr} (I : Inv X pins σ H s) : Inv (hndCx X ea) pins σ H s :=
  I.recx (Y := hndCx X ea) (I.ok.recx (Y := hndCx X ea) ⟨rfl, rfl, rfl⟩ rfl rfl rfl rfl rfl rfl rfl (fun z => by have z' : false = true := z; cases z') I.ok.frames) rfl rfl rfl rfl rfl rfl rfl rfl fun _ hp => hp
theorem Inv.ofHnd {ea : Addr} (ok : X.Ok) (I : Inv (hndCx X ea) pins σ H s) : Inv X pins σ H s := I.recx (Y := X) ok rfl rfl rfl rfl rfl rfl rfl rfl fun _ hp => hp

/-- the callee runs; what becomes of its exception is known here alone -/
theorem run_fnT {CX : CXT} {k : Nat} {f : Addr} {fd : FuncData} {ps : List Str} {sp : Sp} {dvs : List V} {ds : List Value} {E : XK} {Q : VK} {us : List Value} {vs : List V} (F : FnOk X.prog X.w X.K X.mg X.base CX k f fd ps sp) (hr : Room k X.A) (hb : Binds X.K fd ps ds) (hd : Vals dvs ds)
    (I : Inv X pins σ H s) (hx : ∀ e s', CX X.stack H s E e s' → X.xe e s') (r : Vals vs us) (h : sp (vs ++ dvs) H Q E) : wpAny (model X.prog X.w) X.A (call (.ref f) us) (EP X pins σ Q) X.xe s := by
  have r2 : Vals (vs ++ dvs) (us ++ ds) := r.append hd
  have hl : (us ++ ds).length = ps.length := by rw [← r2.length]; exact F.len _ _ _ _ h
  refine wpAny_call (codeAny_mono (F.run X.A X.stack s H ⟨us, []⟩ (us ++ ds) (vs ++ dvs) Q E hr I.env0 (hb s us I.kIn hl) r2 h) fun r s' hq => ?_)
  cases r with
  | error e => exact hx e s' hq
  | ok fl =>
    cases fl with
    | ret u => exact I.after hq
    | next => exact False.elim hq
    | brk => exact False.elim hq
    | cont => exact False.elim hq
/-- this frame's state, while an exception that came from a callee is looked at -/
theorem fly_here {ea : Addr} {cls : Value} (I : Inv X pins σ H s) (F : Fly X.prog X.w X.stack H H' s s' ea cls) {h' : Heap} {B : Heap} {t : Addr} (hf : Heap.FlyingW B X.stack ea cls (.ref t) h') (hu : s'.heap.UpToSlots h')
    (k1 : ∀ b o o', s.heap.get? b = some o → s'.heap.get? b = some o' → b ∉ frs X.stack → B.get? b = some o') (k2 : ∀ b u o', H' b = some u → s'.heap.get? b = some o' → B.get? b = some o') :
    Inv X pins σ H' { s' with heap := h' } := by
  have noE : ∀ b : Addr, b ∉ ([] : List Addr) := fun b => by simp
  have slots : ∀ b o, s.heap.get? b = some o → H b = none → b ∈ frs X.stack → ∃ sl, h'.get? b = some { o with slots := sl } := fun b o e n hb => by
    obtain ⟨sl2, e2⟩ := F.un.slot b _ e n hb (noE b)
    obtain ⟨_, o3, e3, nf⟩ := I.stack.mem hb
    rw [e] at e3
    cases e3
    obtain ⟨sl3, e4⟩ := hu b _ e2 nf
    exact ⟨sl3, e4⟩
  refine I.call' (ch := []) F.os ⟨fun b o e n hb _ => ?_, fun b o e n hb _ => slots b o e n hb, fun b o e n _ => F.un.free b o e n (noE b), fun b o e _ => ?_, F.un.tups, F.un.frzs, F.un.tbls⟩ (fun b u e => ?_) F.bare fun b z => absurd z (noE b)
  · have e2 := F.un.keep b o e n hb (noE b)
    exact hf.1 _ _ (k1 b o o e e2 hb)
  · by_cases hb : b ∈ frs X.stack
    · obtain ⟨sl, q⟩ := slots b o e (I.stkFree b hb) hb
      exact ⟨_, q⟩
    · obtain ⟨o2, e2⟩ := F.un.there b o e (noE b)
      exact ⟨o2, hf.1 _ _ (k1 b o o2 e e2 hb)⟩
  · refine (F.hok b u e).stay (fun c v hc q => ?_) (fun _ q => q) fun _ _ q => q
    rcases hc with z | z
    · subst z
      exact hf.1 _ _ (k2 _ _ _ e q)
    · exact hf.1 _ _ (k2 _ _ _ z q)
/-- an object that is younger than the entry, and nobody's, is tracked from now on -/
theorem Inv.track {a : Addr} {o : HO} (I : Inv X pins σ H s) (hex : X.ex = []) (hn : H a = none) (h0 : X.s₀.heap.get? a = none) (hL : a ≠ X.env.locals) (hc : ∀ x c, X.env.cells.lookup x = some c → c ≠ a) (hp : ∀ p ∈ X.pn ++ pins, p.1 ≠ a)
    (new : ObjOk X.prog X.w (upd H a o) s.heap a o) : Inv X pins σ (upd H a o) s := by
  have ne0 : ∀ b ob, X.s₀.heap.get? b = some ob → b ≠ a := fun b ob e z => by rw [z, h0] at e; cases e
  refine ⟨I.ok, I.os, I.bare, ⟨I.base.keep, I.base.slot, fun b ob e n hx => ?_, I.base.there, fun b xs q => ?_, fun b ob u q => ?_, fun b ps q => ?_⟩, I.loc, I.cell, ?_, fun x c e => ?_, fun p hpp => ?_, fun b u e => ?_, I.len⟩
  · rw [upd_ne (ne0 b ob e)]; exact I.base.free b ob e n hx
  · rw [upd_ne (ne_of_none (I.base.tups b xs q) hn)]; exact I.base.tups b xs q
  · rw [upd_ne (ne_of_none (I.base.frzs b ob u q) hn)]; exact I.base.frzs b ob u q
  · obtain ⟨more, z⟩ := I.base.tbls b ps q
    exact ⟨more, by rw [upd_ne (ne_of_none z hn)]; exact z⟩
  · rw [upd_ne (Ne.symm hL)]; exact I.free
  · rw [upd_ne (hc x c e)]; exact I.freeC x c e
  · obtain ⟨q1, q2, q3⟩ := I.pin p hpp
    exact ⟨q1, by rw [upd_ne (hp p hpp)]; exact q2, q3⟩
  · by_cases hb : b = a
    · subst hb
      rw [upd_same] at e
      cases e
      exact new
    · rw [upd_ne hb] at e
      exact (I.hok b u e).stay (fun _ _ _ q => q) (fun c q => by rw [upd_ne (ne_of_none q hn)]; exact q) fun c xs q => by rw [upd_ne (ne_of_none q hn)]; exact q
/-- a plain local is unbound -/
theorem Inv.unset {i : Nat} {n : Str} (I : Inv X pins σ H s) (hN : X.N.Nodup) (hi : X.N[i]? = some n) {m : Str → Option Value} (hm : s.heap.Ns X.env.locals m)
    (hl : ∀ (i : Nat) (x : Str) (v : V), X.N[i]? = some x → σ[i]? = some (some v) → Vis X.env.scope x → ∃ u, RelV v u ∧ Look X.env s.heap m x u) {h' : Heap} {u : Option Value} (hn' : h'.Ns X.env.locals (fun x => if x = n then u else m x))
    (hs : Heap.SameBut X.env.locals s.heap h') : Inv X pins (σ.set i none) H { s with heap := h' } := by
  obtain ⟨oL, _, _, hoL, _⟩ := id hm
  have hiσ : i < σ.length := by rw [I.len]; exact (List.getElem?_eq_some_iff.mp hi).1
  have cne := I.cne
  refine ⟨I.ok, I.os, I.bare, ⟨fun b o e n hb hx => ?_, fun b o e n hb hx => ?_, I.base.free, fun b o e hx => ?_, I.base.tups, I.base.frzs, I.base.tbls⟩, ⟨_, hn', fun j y v' e1 e2 e3 => ?_⟩, fun y c e => ?_, I.free, I.freeC, fun p hp => ?_, fun b ob e => ?_, by simpa using I.len⟩
  · exact (hs.2 b (Nat.ne_of_lt (Nat.lt_of_lt_of_le (Heap.lt_size e) I.ok.above))).trans (I.base.keep b o e n hb hx)
  · obtain ⟨sl, e1⟩ := I.base.slot b o e n hb hx
    exact ⟨sl, (hs.2 b (Nat.ne_of_lt (Nat.lt_of_lt_of_le (Heap.lt_size e) I.ok.above))).trans e1⟩
  · obtain ⟨o', e1⟩ := I.base.there b o e hx
    exact ⟨o', (hs.2 b (Nat.ne_of_lt (Nat.lt_of_lt_of_le (Heap.lt_size e) I.ok.above))).trans e1⟩
  · by_cases hj : j = i
    · subst hj
      rw [List.getElem?_set_self hiσ] at e2
      cases e2
    · rw [List.getElem?_set_ne (Ne.symm hj)] at e2
      obtain ⟨u', r', q⟩ := hl j y v' e1 e2 e3
      refine ⟨u', r', ?_⟩
      rcases q with ⟨k, e⟩ | ⟨k, c, e, z⟩
      · refine .inl ⟨k, ?_⟩
        have : y ≠ n := fun e => hj (nodup_ix hN e1 (e ▸ hi))
        simp [this, e]
      · exact .inr ⟨k, c, e, z.sameBut hs (cne y c e)⟩
  · obtain ⟨w', z⟩ := I.cell y c e
    exact ⟨w', z.sameBut hs (cne y c e)⟩
  · obtain ⟨e, n, ne, nf, d⟩ := I.pin p hp
    exact ⟨(hs.2 p.1 ne).trans e, n, ne, nf, d⟩
  · refine (I.hok b ob e).stay (fun c w' hc q => (hs.2 c ?_).trans q) (fun _ q => q) fun _ _ q => q
    have fr := I.free
    rintro rfl
    rcases hc with rfl | hc
    · rw [fr] at e; cases e
    · rw [fr] at hc; cases hc
end
end L2
/-! OWN RULES: try: .. except C as n: .. -/
namespace L2
open PySem PySem.Spec PyProof.Rows
section
variable {X : Cx}
end
end L2
/-! OWN RULES: isinstance of a caught exception -/
namespace L2
open PySem PySem.Spec PyProof.Rows
/-- what is asked of an own exception class for isinstance -/
structure XIs (K : PySem.W.Frag) (C : Addr) : Prop where
  ga : PySem.W.findIn K (.ref C) "__getattribute__" = some (some (.builtin "BaseException.__getattribute__"))
  gn : PySem.W.findIn K (.ref C) "__getattr__" = some none
  cl : PySem.W.findIn K (.ref C) "__class__" = some (some (.builtin "object.__class__"))
  be : PySem.W.mroIn K C (.type "BaseException") = some true
  ob : PySem.W.mroIn K C (.type "object") = some true
  is : (PySem.W.clsIn K C).isSome = true
section
variable {prog : Program} {w : World} {A : Around} {E : Value → Shared → Prop} {K : PySem.W.Frag} {h : Heap} {g : Array GenState} {d : Drawn} {t : Nat} {os : OsState} {a C : Addr} {o : Obj}
theorem xc_type {M : Model} (hx : h.get? a = some o) (hc : o.cls = .ref C) : PySem.W.Looks M h (typeOf (.ref a)) (.ref C) := hc ▸ (PySem.W.Looks.ld hx).andThen .now
theorem xc_get {R : Result → Shared → Prop} {tp : Value} (X : K.In h) (I : XIs K C) (hx : h.get? a = some o) (hc : o.cls = .ref C) (hq : R (.ok (.ret (.ref C))) ⟨h, g, d, t, os⟩) :
    codeAny (model prog w) A (.call (.builtin "getset_descriptor.__get__") ⟨[.builtin "object.__class__", .ref a, tp], []⟩) R ⟨h, g, d, t, os⟩ := by
  have L1 := PySem.W.looks_mroIn (M := model prog w) X I.ob
  have hT5 : (⟨h, g, d, t, os⟩ : Shared).TypeIs (.builtin "object.__class__") "getset_descriptor" := F.typeOf_object_class
  refine codeAny_call_builtin F.slot_gs_get.plain F.entry_gs_get (F.slot_gs_get.check _ _ _ _ _ _ _ _ hT5 (F.args_gs_get _ _ _) ?_)
  have ow := F.owner_object_class
  repeat (any_goals (first | assumption | (with_reducible refine wpAny_loadPart_at hx ?_; rw [hc]) | (rw [ow]; with_reducible refine L1.at ?_) | (with_reducible refine L1.at ?_) | wp_step))
  refine ⟨Code.quiet_builtin _ (by decide +kernel), codeAny_builtin F.entry_object_class ?_⟩
  repeat (any_goals (first | assumption | (with_reducible refine wpAny_loadPart_at hx ?_; rw [hc]) | wp_step))
theorem xc_entry {tk : Tok} {Q : Fin → Shared → Prop} (X : K.In h) (I : XIs K C) (hx : h.get? a = some o) (hc : o.cls = .ref C) (hq : Q (.done (.ret (.ref C))) ⟨h, g, d, t, os⟩) :
    wpAny (model prog w) A (Builtin.«object.__getattribute__» ⟨[.ref a, .str "__class__" tk], []⟩) Q E ⟨h, g, d, t, os⟩ := by
  have hT5 : (⟨h, g, d, t, os⟩ : Shared).TypeIs (.builtin "object.__class__") "getset_descriptor" := F.typeOf_object_class
  have f5 := F.typeOf_object_class
  have f6 := F.slot_gs_get.lookup
  have f7 := F.slot_gs_set.lookup
  have L1 := PySem.W.looks_findIn (M := model prog w) X I.cl
  repeat (any_goals (first | assumption | (with_reducible refine wpAny_loadPart_at hx ?_; rw [hc]) | (with_reducible refine L1.at ?_) | wp_step))
  refine xc_get X I hx hc ?_
  repeat (any_goals (first | assumption | wp_step))
theorem xc_check {M : Model} {nameV : Value} {Q : Unit → Shared → Prop} (X : K.In h) (I : XIs K C) (hx : h.get? a = some o) (hc : o.cls = .ref C) (hq : Q () ⟨h, g, d, t, os⟩) : wpAny M A (checkBuiltinCall "BaseException.__getattribute__" ⟨[.ref a, nameV], []⟩) Q E ⟨h, g, d, t, os⟩ := by
  have hk : builtinKind "BaseException.__getattribute__" = some .slot := by decide +kernel
  have hsplit : splitId "BaseException.__getattribute__" = some ("BaseException", "__getattribute__") := by decide +kernel
  have L1 := PySem.W.looks_mroIn (M := M) X I.be
  have ha := F.args_bexc_ga (.ref a) nameV
  simp only [checkBuiltinCall, hk, hsplit]
  refine wpAny_bind ?_
  · unfold isInstance
    repeat (first | (with_reducible refine wpAny_loadPart_at hx ?_; rw [hc]) | (with_reducible refine L1.at ?_) | wp_step)
    exact hq
theorem xc_call {tk : Tok} {R : Result → Shared → Prop} (X : K.In h) (I : XIs K C) (hx : h.get? a = some o) (hc : o.cls = .ref C) (hq : R (.ok (.ret (.ref C))) ⟨h, g, d, t, os⟩) :
    codeAny (model prog w) A (.call (.builtin "BaseException.__getattribute__") ⟨[.ref a, .str "__class__" tk], []⟩) R ⟨h, g, d, t, os⟩ :=
  codeAny_call_builtin F.attr_ValueError.ga.plain F.entry_bexc_ga (xc_check X I hx hc (xc_entry X I hx hc hq))
theorem xc_by {tk : Tok} {Q : Value → Shared → Prop} (X : K.In h) (I : XIs K C) (hx : h.get? a = some o) (hc : o.cls = .ref C) (hq : Q (.ref C) ⟨h, g, d, t, os⟩) :
    wpAny (model prog w) A (getAttrBy (.ref a) (.str "__class__" tk) false) Q E ⟨h, g, d, t, os⟩ := by
  have f3 := F.attr_ValueError.ga.bind (.ref a)
  have L1 := PySem.W.looks_findIn (M := model prog w) X I.ga
  have L2 := PySem.W.looks_findIn (M := model prog w) X I.gn
  have hx2 : (Value.builtin "BaseException.__getattribute__" == Value.builtin "object.__getattribute__") = false := by decide +kernel
  have hx1 : (onTheHeap (Value.ref C) && Value.builtin "BaseException.__getattribute__" == Value.builtin "object.__getattribute__") = false := by rw [hx2]; rfl
  repeat (any_goals (first | assumption | (with_reducible refine wpAny_loadPart_at hx ?_; rw [hc]) | (with_reducible refine L1.at ?_) | (with_reducible refine L2.at ?_) | wp_step))
  refine xc_call X I hx hc ?_
  repeat (any_goals (first | assumption | wp_step))
theorem xc_attr {Q : Option Value → Shared → Prop} (X : K.In h) (I : XIs K C) (hx : h.get? a = some o) (hc : o.cls = .ref C) (hq : Q (some (.ref C)) ⟨h, g, d, t + 1, os⟩) : wpAny (model prog w) A (getAttr? (.ref a) "__class__") Q E ⟨h, g, d, t, os⟩ := by
  unfold getAttr? getAttrBy?
  repeat (any_goals (first | assumption | with_reducible apply xc_by X I hx hc | wp_step))
end
/-- the exception's kit for isinstance -/
theorem kitx_exc {K : PySem.W.Frag} {ea C : Addr} (I : XIs K C) : PySem.W.KitX K (.ref ea) (.ref C) (fun h => ∃ o vs, h.get? ea = some o ∧ o.cls = .ref C ∧ o.data = .fields vs) where
  ty := fun _ _ _ ⟨o, _, h1, h2, _⟩ => xc_type h1 h2
  it := fun _ _ X _ => by
    have hcD := I.is
    unfold PySem.W.clsIn at hcD
    split at hcD
    · rename_i c' d' cd' sl' ho
      intro A' Q' E' s' k q
      unfold isType loadHead
      exact wpAny_bind (wpAny_loadPart (k _ _ (X _ _ ho)) (wpAny_pure q))
    · cases hcD
  ne := fun h tp dd its n sl X htp => by
    refine Bool.eq_false_iff.mpr fun q => ?_
    have e : C = tp := Value.ref.inj (beq_iff_eq.mp q)
    subst e
    have hcD := I.is
    unfold PySem.W.clsIn at hcD
    split at hcD
    · rename_i c' d' cd' sl' ho
      have z := (X _ _ ho).symm.trans htp
      cases z
    · cases hcD
  ca := fun {_ _ _ _ _ s} X ⟨o, _, h1, h2, _⟩ k => by
    obtain ⟨hh, g, d, t, os⟩ := s
    exact xc_attr X I h1 h2 k
section
variable {X : Cx}
/-- isinstance(e, D), e a caught exception of the class C; D an own class (a ref) or a built-in one -/
theorem call_isexc : CallR X (.builtin "isinstance") (fun xs H Q => ∃ ea C y c b, xs = [.ref ea, y] ∧ H ea = some (IsExc ea (.ref C)) ∧ XIs X.K C ∧ RelV y c ∧ PySem.W.kitOne X.K (.ref C) c = some b ∧ Q (.bl b) H) := by
  intro pins s σ H xs us Q I r h
  obtain ⟨ea, C, y, c, b, rfl, hH, hX, ry, hk, q⟩ := h
  obtain ⟨u, w, rfl, r1, r2⟩ := vals2 r
  obtain rfl : u = Value.ref ea := r1
  have hw : w = c := by
    cases y with
    | ref z => exact (show w = Value.ref z from r2).trans (show c = Value.ref z from ry).symm
    | ty z => exact (show w = Value.type z from r2).trans (show c = Value.type z from ry).symm
    | non => exact (show w = Value.none from r2).trans (show c = Value.none from ry).symm
    | bl z => exact (show w = Value.bool z from r2).trans (show c = Value.bool z from ry).symm
    | int z =>
      exfalso
      obtain ⟨_, rfl⟩ := ry
      unfold PySem.W.kitOne PySem.W.kitCls at hk
      simp at hk
    | str z =>
      exfalso
      obtain ⟨_, rfl⟩ := ry
      unfold PySem.W.kitOne PySem.W.kitCls at hk
      simp at hk
    | byt z =>
      exfalso
      obtain ⟨_, rfl⟩ := ry
      unfold PySem.W.kitOne PySem.W.kitCls at hk
      simp at hk
    | flt z =>
      exfalso
      obtain ⟨_, rfl⟩ := ry
      unfold PySem.W.kitOne PySem.W.kitCls at hk
      simp at hk
  subst hw
  obtain ⟨p, _, _⟩ := (show ObjOk X.prog X.w H s.heap ea (IsExc ea (.ref C)) from I.hok ea _ hH)
  exact PySem.W.kia_one (kitx_exc hX) I.kIn p hk (fun z => nomatch z) fun tk => ⟨.bl b, H, I.tok tk, rfl, q⟩
end
end L2
/-! OWN RULES: count and index of bools; a def from which exceptions may leave -/
namespace L2
open PySem PySem.Spec PyProof.Rows
theorem eqAt_bl {A : Around} {s : Shared} (k : Bool) (bs : List Bool) : ∀ y, y ∈ (bs.map Value.bool).toArray → SeqAt.EqAt A s y (.bool k) (isBoolOf k y) := fun y hy => by
  have hy' : y ∈ bs.map Value.bool := by simpa using hy
  obtain ⟨b, _, rfl⟩ := List.mem_map.mp hy'
  exact SeqAt.EqAt.bool_bool b k
theorem countP_bl (k : Bool) : ∀ bs : List Bool, (bs.map Value.bool).countP (isBoolOf k) = bs.count k
  | [] => rfl
  | b :: bs => by
    rw [List.map_cons, List.countP_cons, List.count_cons, countP_bl k bs]
    rfl
def rCountB (K : PySem.W.Frag) : V → List V → Hp → VK → Prop := fun x vs H Q => ∃ (l : Addr) (bs : List Bool) (k : Bool), x = .ref l ∧ vs = [.bl k] ∧ SqL K H l (bs.map V.bl) ∧ Q (.int (bs.count k)) H
def rIndexB (K : PySem.W.Frag) : V → List V → Hp → VK → Prop := fun x vs H Q => ∃ (l : Addr) (bs : List Bool) (k : Bool), x = .ref l ∧ vs = [.bl k] ∧ SqL K H l (bs.map V.bl) ∧ k ∈ bs ∧ Q (.int (bs.idxOf k)) H
section
variable {X : Cx}
theorem mt_countB : MtR X "list.count" (rCountB X.K) := by
  intro pins s σ H x vs v us Q I rx rv h
  obtain ⟨l, bs, k, rfl, rfl, hH, q⟩ := h
  cases rx
  obtain ⟨u, rfl, ru⟩ := rv.one
  obtain rfl : u = Value.bool k := ru
  obtain ⟨its, r, pl, hz⟩ := I.list hH
  have e := vals_bl r
  subst e
  obtain ⟨⟨cls, dd, data, sl⟩, ho, hc, n, hd⟩ := pl.isList
  simp only at hc hd
  subst hc hd
  refine call_meets PySem.F.slot_list_count ⟨_, ho, rfl⟩ PySem.F.entry_list_count (PySem.F.args_list_count_2 _ _) (SeqAt.list_countAt l _ n dd sl (.bool k) (isBoolOf k)) ⟨ho, fun y hy => eqAt_bl k bs y hy, ?_⟩
  rw [show (bs.map Value.bool).toArray.toList = bs.map Value.bool from rfl, countP_bl k bs]
  exact ⟨.int (bs.count k), H, I.tok _, ⟨_, rfl⟩, q⟩
theorem mt_indexB : MtR X "list.index" (rIndexB X.K) := by
  intro pins s σ H x vs v us Q I rx rv h
  obtain ⟨l, bs, k, rfl, rfl, hH, hk, q⟩ := h
  cases rx
  obtain ⟨u, rfl, ru⟩ := rv.one
  obtain rfl : u = Value.bool k := ru
  obtain ⟨its, r, pl, hz⟩ := I.list hH
  have e := vals_bl r
  subst e
  obtain ⟨⟨cls, dd, data, sl⟩, ho, hc, n, hd⟩ := pl.isList
  simp only at hc hd
  subst hc hd
  have hj : bs.idxOf k < bs.length := List.idxOf_lt_length_iff.mpr hk
  have hz' : bs.length ≤ sizeLine := by rw [List.length_map] at hz; exact hz
  have hs : (sizeLine : Int) < 2 ^ 63 - 1 := by decide
  refine call_meets PySem.F.slot_list_index ⟨_, ho, rfl⟩ PySem.F.entry_list_index (PySem.F.args_list_index_2 _ _)
    (SeqAt.list_indexAt l _ n dd sl (.bool k) (isBoolOf k) (bs.idxOf k) (by simpa using hj) (by omega) ?_ ?_) ⟨ho, fun y hy => eqAt_bl k bs y hy, ?_⟩
  · have e : (bs.map Value.bool).toArray[bs.idxOf k]'(by simpa using hj) = Value.bool (bs[bs.idxOf k]) := by simp
    rw [e]
    show (bs[bs.idxOf k] == k) = true
    simpa using List.getElem_idxOf hj
  · intro j hjs hlt
    have hjl : j < bs.length := by simpa using hjs
    have e : (bs.map Value.bool).toArray[j]'hjs = Value.bool (bs[j]) := by simp
    rw [e]
    show (bs[j] == k) = false
    exact Bool.eq_false_iff.mpr fun z => by simpa [z] using List.not_of_lt_findIdx (p := (· == k)) (xs := bs) (i := j) hlt
  · exact ⟨.int (bs.idxOf k), H, I.tok _, ⟨_, rfl⟩, q⟩
end
section
variable {P : Program} {w : World} {K : PySem.W.Frag} {mg : Str → Option Value} {base : Heap}
end
end L2
namespace L2
open PySem
/-- the kinds that a class is of -/
def kinds (K : PySem.W.Frag) (C : Value) (Ds : List Value) : List (Option Bool) := Ds.map (PySem.W.kitOne K C)
end L2
namespace L2
open PySem PySem.Spec PyProof.Rows
/-- whether an item is written with a star -/
def isStar : Expr → Bool
  | .Starred _ _ => true
  | _ => false
theorem starEach_no {e : Expr} {es : List Expr} {env : Env} (h : isStar e = false) : starEach (e :: es) env = (false, eval e env) :: starEach es env := by
  cases e <;> first | rfl | cases h
section
variable {X : Cx} {e : Expr} {es : List Expr} {te : TE} {t : TA}
/-- pa_cons for long rows: the side condition looks at the first item alone -/
theorem pa_more (ha : PE X e te) (hr : PA X es t) (h : isStar e = false := by rfl) : PA X (e :: es) (tCons te t) := pa_cons ha hr (starEach_no h)
end
end L2
/-! OWN RULES: range objects; tuples made of them, turned about, repeated, cut whole; calls with three keywords -/
namespace L2
open PySem PySem.Spec PyProof.Rows
section
variable {prog : Program} {w : World} {A : Around} {E : Value → Shared → Prop} {s : Shared}
end
section
variable {X : Cx}
end
def kb13 {α : Type} : List α → List α → List α
  | [u0], [w0, w1, w2] => [u0, w0, w1, w2]
  | _, _ => []
theorem kb_rel13 {vs : List V} {us : List Value} {zs : List V} {ws : List Value} (r1 : Vals vs us) (r2 : Vals zs ws) : Vals (kb13 vs zs) (kb13 us ws) := by
  rcases r1 with _ | ⟨a, _ | ⟨_, _⟩⟩ <;> rcases r2 with _ | ⟨b, _ | ⟨c, _ | ⟨d, _ | ⟨_, _⟩⟩⟩⟩
  all_goals first | exact .nil | exact .cons a (.cons b (.cons c (.cons d .nil)))
end L2
/-! OWN RULES: t[::-1], t[a:] that may be the whole, t * n -/
namespace L2
open PySem PySem.Spec PyProof.Rows
section
open PySem.SeqAt
open PySem.MeetsSeq PySem.MeetsSeq2 PySem.MeetsSeq3
end
end L2
namespace L2
open PySem PySem.Spec PyProof.Rows
section
variable {X : Cx}
end
end L2
/-! OWN RULES: t[::-1], t[a:] that may be the whole -/
namespace HT
open PySem PyProof.Rows
section
variable {prog : Program} {w : World} {A : Around} {E : Value → Shared → Prop} {s : Shared}
end
end HT
namespace L2
open PySem PySem.Spec PyProof.Rows
section
variable {X : Cx}
end
end L2
/-! OWN RULES: rows of written things: ints, bools, texts, None, a - b of written ints; tuples and lists of these -/
namespace L2
open PySem PySem.Spec PyProof.Rows
/-- a written plain thing -/
def constV : Expr → Option V
  | .Constant (.int i) _ _ => some (.int i)
  | .Constant (.bool b) _ _ => some (.bl b)
  | .Constant .none _ _ => some .non
  | .Constant (.str x) _ _ => some (.str x)
  | .BinOp (.Constant (.int i) _ _) .Sub (.Constant (.int j) _ _) _ => some (.int (i - j))
  | _ => none
def constsV : List Expr → Option (List V)
  | [] => some []
  | e :: es => match constV e, constsV es with
    | some v, some vs => some (v :: vs)
    | _, _ => none
/-- a written thing: a plain one, or a tuple or list of such -/
inductive Lit where
  | c (v : V) | t (vs : List V) | l (vs : List V) | r (vs : List V) (k : Int)
def litOf : Expr → Option Lit
  | .Tuple es _ _ => (constsV es).map .t
  | .List es _ => (constsV es).map .l
  | .BinOp (.List es _) .Mult (.Constant (.int k) _ _) _ => (constsV es).map fun vs => .r vs k
  | e => (constV e).map .c
def litsOf : List Expr → Option (List Lit)
  | [] => some []
  | e :: es => match litOf e, litsOf es with
    | some v, some vs => some (v :: vs)
    | _, _ => none
def tVals (vs : List V) : TA := fun _ H Q => Q vs H
def tLits : List Lit → TA
  | [] => fun _ H Q => Q [] H
  | .c v :: ls => fun σ H Q => tLits ls σ H fun vs H' => Q (v :: vs) H'
  | .t xs :: ls => fun σ H Q => xs.length ≤ sizeLine ∧ ∀ p, H p = none → tLits ls σ (upd H p (.tup xs)) fun vs H' => Q (.ref p :: vs) H'
  | .l xs :: ls => fun σ H Q => xs.length ≤ sizeLine ∧ ∀ p, H p = none → tLits ls σ (upd H p (.lst xs)) fun vs H' => Q (.ref p :: vs) H'
  | .r xs k :: ls => fun σ H Q => xs.length ≤ sizeLine ∧ ∀ p, H p = none → (-(2 ^ 63) ≤ k ∧ k < 2 ^ 63 ∧ xs.length * k.toNat ≤ sizeLine) ∧ ∀ p2, upd H p (.lst xs) p2 = none → tLits ls σ (upd (upd H p (.lst xs)) p2 (.lst (List.replicate k.toNat xs).flatten)) fun vs H' => Q (.ref p2 :: vs) H'
def tRep (xs : List V) (k : Int) : TE := fun _ H Q => xs.length ≤ sizeLine ∧ ∀ p, H p = none → (-(2 ^ 63) ≤ k ∧ k < 2 ^ 63 ∧ xs.length * k.toNat ≤ sizeLine) ∧ ∀ p2, upd H p (.lst xs) p2 = none → Q (.ref p2) (upd (upd H p (.lst xs)) p2 (.lst (List.replicate k.toNat xs).flatten))
section
variable {X : Cx}
theorem pe_constV {e : Expr} {v : V} (h : constV e = some v) : PE X e (tC v) ∧ isStar e = false := by
  unfold constV at h
  split at h
  · cases h; exact ⟨pe_int, rfl⟩
  · cases h; exact ⟨pe_bl, rfl⟩
  · cases h; exact ⟨pe_non, rfl⟩
  · cases h; exact ⟨pe_str, rfl⟩
  · cases h
    refine ⟨fun pins s σ H Q I q => ?_, rfl⟩
    exact (pe_op op_sub pe_int pe_int : PE X _ _) pins s σ H Q I ⟨_, _, rfl, rfl, q⟩
  · cases h
theorem pa_consts : ∀ {es : List Expr} {vs : List V}, constsV es = some vs → PA X es (tVals vs)
  | [], vs, h => by
    cases h
    exact pa_nil
  | e :: es, vs, h => by
    unfold constsV at h
    split at h
    · rename_i v ws h1 h2
      cases h
      exact pa_more (pe_constV h1).1 (pa_consts h2) (pe_constV (X := X) h1).2
    · cases h
theorem pe_litT {e : Expr} {xs : List V} (h : litOf e = some (.t xs)) : PE X e (tTup (tVals xs)) ∧ isStar e = false := by
  unfold litOf at h
  split at h
  · rename_i es a b
    cases q : constsV es with
    | none => rw [q] at h; cases h
    | some vs =>
      rw [q] at h
      cases h
      exact ⟨pe_tup (pa_consts q), rfl⟩
  · rename_i es a
    cases q : constsV es with
    | none => rw [q] at h; cases h
    | some vs => rw [q] at h; cases h
  · rename_i es a k b c d
    cases q : constsV es with
    | none => rw [q] at h; cases h
    | some vs => rw [q] at h; cases h
  · cases q : constV e with
    | none => rw [q] at h; cases h
    | some v => rw [q] at h; cases h
theorem pe_litL {e : Expr} {xs : List V} (h : litOf e = some (.l xs)) : PE X e (tLst (tVals xs)) ∧ isStar e = false := by
  unfold litOf at h
  split at h
  · rename_i es a b
    cases q : constsV es with
    | none => rw [q] at h; cases h
    | some vs => rw [q] at h; cases h
  · rename_i es a
    cases q : constsV es with
    | none => rw [q] at h; cases h
    | some vs =>
      rw [q] at h
      cases h
      exact ⟨pe_lst (pa_consts q), rfl⟩
  · rename_i es a k b c d
    cases q : constsV es with
    | none => rw [q] at h; cases h
    | some vs => rw [q] at h; cases h
  · cases q : constV e with
    | none => rw [q] at h; cases h
    | some v => rw [q] at h; cases h
theorem pe_litC {e : Expr} {v : V} (h : litOf e = some (.c v)) : PE X e (tC v) ∧ isStar e = false := by
  unfold litOf at h
  split at h
  · rename_i es a b
    cases q : constsV es with
    | none => rw [q] at h; cases h
    | some vs => rw [q] at h; cases h
  · rename_i es a
    cases q : constsV es with
    | none => rw [q] at h; cases h
    | some vs => rw [q] at h; cases h
  · rename_i es a k b c d
    cases q : constsV es with
    | none => rw [q] at h; cases h
    | some vs => rw [q] at h; cases h
  · cases q : constV e with
    | none => rw [q] at h; cases h
    | some v =>
      rw [q] at h
      cases h
      exact pe_constV q
theorem pe_litR {e : Expr} {xs : List V} {k : Int} (h : litOf e = some (.r xs k)) : PE X e (tRep xs k) ∧ isStar e = false := by
  unfold litOf at h
  split at h
  · rename_i es a b
    cases q : constsV es with
    | none => rw [q] at h; cases h
    | some vs => rw [q] at h; cases h
  · rename_i es a
    cases q : constsV es with
    | none => rw [q] at h; cases h
    | some vs => rw [q] at h; cases h
  · rename_i es a k b c d
    cases q : constsV es with
    | none => rw [q] at h; cases h
    | some vs =>
      rw [q] at h
      cases h
      refine ⟨fun pins s σ H Q I q' => ?_, rfl⟩
      obtain ⟨hz, q'⟩ := q'
      exact (pe_op op_rep (pe_lst (pa_consts q)) pe_int : PE X _ _) pins s σ H Q I ⟨hz, fun p hp => ⟨p, k, _, rfl, rfl, upd_same, (q' p hp).1.1, (q' p hp).1.2.1, (q' p hp).1.2.2, (q' p hp).2⟩⟩
  · cases q : constV e with
    | none => rw [q] at h; cases h
    | some v => rw [q] at h; cases h
/-- a row of written things -/
theorem pa_lits : ∀ {es : List Expr} {ls : List Lit}, litsOf es = some ls → PA X es (tLits ls)
  | [], vs, h => by
    cases h
    exact pa_nil
  | e :: es, vs, h => by
    unfold litsOf at h
    split at h
    · rename_i v ws h1 h2
      cases h
      cases v with
      | c v => exact pa_more (pe_litC h1).1 (pa_lits h2) (pe_litC (X := X) h1).2
      | t xs => exact pa_more (pe_litT h1).1 (pa_lits h2) (pe_litT (X := X) h1).2
      | l xs => exact pa_more (pe_litL h1).1 (pa_lits h2) (pe_litL (X := X) h1).2
      | r xs k => exact pa_more (pe_litR h1).1 (pa_lits h2) (pe_litR (X := X) h1).2
    · cases h
end
/-- a written thing as it stands in H, new since G -/
def LitAt (G H : Hp) : Lit → V → Prop
  | .c v, x => x = v
  | .t xs, x => ∃ p, x = .ref p ∧ G p = none ∧ H p = some (.tup xs)
  | .l xs, x => ∃ p, x = .ref p ∧ G p = none ∧ H p = some (.lst xs)
  | .r xs k, x => ∃ p, x = .ref p ∧ G p = none ∧ H p = some (.lst (List.replicate k.toNat xs).flatten)
theorem LitAt.keep {G H H' : Hp} (s : ∀ p o, G p = none → H p = some o → H' p = some o) : ∀ {l : Lit} {x : V}, LitAt G H l x → LitAt G H' l x
  | .c v, x, h => h
  | .t xs, x, ⟨p, e, g, h⟩ => ⟨p, e, g, s _ _ g h⟩
  | .l xs, x, ⟨p, e, g, h⟩ => ⟨p, e, g, s _ _ g h⟩
  | .r xs k, x, ⟨p, e, g, h⟩ => ⟨p, e, g, s _ _ g h⟩
theorem LitAt.same {G H H' : Hp} (s : Same H H') {l : Lit} {x : V} (h : LitAt G H l x) : LitAt G H' l x := h.keep fun p o _ e => s p o e
theorem LitAt.weak {G G' H : Hp} (s : ∀ p, G' p = none → G p = none) : ∀ {l : Lit} {x : V}, LitAt G' H l x → LitAt G H l x
  | .c v, x, h => h
  | .t xs, x, ⟨p, e, g, h⟩ => ⟨p, e, s _ g, h⟩
  | .l xs, x, ⟨p, e, g, h⟩ => ⟨p, e, s _ g, h⟩
  | .r xs k, x, ⟨p, e, g, h⟩ => ⟨p, e, s _ g, h⟩
def litLen : Lit → Bool
  | .c _ => true
  | .t xs => decide (xs.length ≤ 1000)
  | .l xs => decide (xs.length ≤ 1000)
  | .r xs k => decide (xs.length ≤ 1000 ∧ 0 ≤ k ∧ k ≤ 1000 ∧ xs.length * k.toNat ≤ 1000)
theorem new_same {H : Hp} {p : Addr} {o : HO} (h : H p = none) : Same H (upd H p o) := fun b u e => by rw [upd_ne (ne_of_none e h)]; exact e
/-- how a row of written things is read -/
theorem lits_read {σ : St} : ∀ (ls : List Lit) {H : Hp} {Q : List V → Hp → Prop}, ls.all litLen = true → (∀ vs H', Same H H' → Paired (LitAt H H') ls vs → Q vs H') → tLits ls σ H Q
  | [], H, Q, _, h => h [] H (Same.refl H) .nil
  | .c v :: ls, H, Q, hl, h => by
    rw [List.all_cons, Bool.and_eq_true] at hl
    exact lits_read ls hl.2 fun vs H' s p => h (v :: vs) H' s (.cons rfl p)
  | .t xs :: ls, H, Q, hl, h => by
    rw [List.all_cons, Bool.and_eq_true] at hl
    refine ⟨Nat.le_of_lt (small1000 (of_decide_eq_true hl.1)), fun p hp => lits_read ls hl.2 fun vs H' s q => h (.ref p :: vs) H' ((new_same hp).trans s) (.cons ⟨p, rfl, hp, s _ _ upd_same⟩ (Paired.mapP q fun _ _ => LitAt.weak fun c => (new_same hp).free))⟩
  | .l xs :: ls, H, Q, hl, h => by
    rw [List.all_cons, Bool.and_eq_true] at hl
    refine ⟨Nat.le_of_lt (small1000 (of_decide_eq_true hl.1)), fun p hp => lits_read ls hl.2 fun vs H' s q => h (.ref p :: vs) H' ((new_same hp).trans s) (.cons ⟨p, rfl, hp, s _ _ upd_same⟩ (Paired.mapP q fun _ _ => LitAt.weak fun c => (new_same hp).free))⟩
  | .r xs k :: ls, H, Q, hl, h => by
    rw [List.all_cons, Bool.and_eq_true] at hl
    have h1 : xs.length ≤ 1000 ∧ 0 ≤ k ∧ k ≤ 1000 ∧ xs.length * k.toNat ≤ 1000 := of_decide_eq_true hl.1
    refine ⟨Nat.le_of_lt (small1000 h1.1), fun p hp => ⟨⟨by omega, by omega, Nat.le_of_lt (small1000 h1.2.2.2)⟩, fun p2 hp2 => lits_read ls hl.2 fun vs H' s q => h (.ref p2 :: vs) H' (((new_same hp).trans (new_same hp2)).trans s)
      (.cons ⟨p2, rfl, (new_same hp).free hp2, s _ _ upd_same⟩ (Paired.mapP q fun _ _ => LitAt.weak fun c z => (new_same hp).free ((new_same hp2).free z)))⟩⟩
end L2
/-! OWN RULES: texts with braces -/
namespace L2
open PySem PySem.Spec PyProof.Rows
section
variable {X : Cx} {e v1 v2 : Expr} {es : List Expr} {te : TE} {t : Str → TE} {pos : Pos}
end
end L2
/-! OWN RULES: a dict is held fast while a loop walks it, and let go again; its keys walked -/
namespace L2
open PySem PySem.Spec PyProof.Rows
section
variable {X : Cx} {pins : List (Addr × Obj)} {σ : St} {H : Hp} {s : Shared} {a : Addr} {o : Obj} {u : HO}
theorem Inv.freeze (I : Inv X pins σ H s) (hm : Mut (some u)) (ha : H a = some u) (ho : s.heap.get? a = some o) : Inv X pins σ (upd H a (.frz o u)) s := by
  have new : ObjOk X.prog X.w (upd H a (.frz o u)) s.heap a (.frz o u) := by
    refine ⟨ho, (I.hok a u ha).stay (fun _ _ _ q => q) (fun c q => ?_) fun c xs q => ?_⟩
    · have hc : c ≠ a := fun z => by
        subst z
        rw [ha] at q
        cases q
        exact hm
      rw [upd_ne hc]
      exact q
    · have hc : c ≠ a := fun z => by
        subst z
        rw [ha] at q
        cases q
        exact hm
      rw [upd_ne hc]
      exact q
  exact I.write (t' := s.toks) (x := a) (e := a) (o := .frz o u) (h' := s.heap) (by rw [ha]; exact hm) (.inl rfl) (fun b v _ q => q) ⟨o, ho⟩ new
theorem Inv.thaw (I : Inv X pins σ H s) (ha : H a = some (.frz o u)) (h0 : ∀ o' u', X.H₀ a ≠ some (.frz o' u')) (hm : Mut (some u)) : Inv X pins σ (upd H a u) s := by
  have ne : ∀ {b : Addr} {v : HO}, H b = some v → (∀ o' u', v ≠ .frz o' u') → b ≠ a := fun {b v} e h z => by
    subst z
    rw [ha] at e
    exact h _ _ (Option.some.inj e).symm
  have nen : ∀ {b : Addr}, H b = none → b ≠ a := fun {b} e z => by
    subst z
    rw [ha] at e
    cases e
  refine ⟨I.ok, I.os, I.bare, ⟨I.base.keep, I.base.slot, fun b ob e n hx => ?_, I.base.there, fun b xs q => ?_, fun b ob v q => ?_, fun b ps q => ?_⟩, I.loc, I.cell, ?_, fun x c e => ?_, fun p hp => ?_, fun b v e => ?_, I.len⟩
  · have q := I.base.free b ob e n hx
    rw [upd_ne (nen q)]
    exact q
  · have q' := I.base.tups b xs q
    rw [upd_ne (ne q' fun _ _ z => nomatch z)]
    exact q'
  · have hb : b ≠ a := fun z => by
      subst z
      exact h0 _ _ q
    rw [upd_ne hb]
    exact I.base.frzs b ob v q
  · obtain ⟨more, z⟩ := I.base.tbls b ps q
    exact ⟨more, by rw [upd_ne (ne z fun _ _ z => nomatch z)]; exact z⟩
  · rw [upd_ne (nen I.free)]
    exact I.free
  · rw [upd_ne (nen (I.freeC x c e))]
    exact I.freeC x c e
  · obtain ⟨q1, q2, q3⟩ := I.pin p hp
    exact ⟨q1, by rw [upd_ne (nen q2)]; exact q2, q3⟩
  · have own : ∀ (c y : Addr), H c = some (.own y) → upd H a u c = some (.own y) := fun c y q => by
      rw [upd_ne (ne q fun _ _ z => nomatch z)]
      exact q
    have tup : ∀ (c : Addr) (xs : List V), H c = some (.tup xs) → upd H a u c = some (.tup xs) := fun c xs q => by
      rw [upd_ne (ne q fun _ _ z => nomatch z)]
      exact q
    by_cases hb : b = a
    · subst hb
      rw [upd_same] at e
      cases e
      obtain ⟨_, q⟩ := I.hok _ _ ha
      exact q.stay (fun _ _ _ q => q) (fun c q => own c _ q) tup
    · rw [upd_ne hb] at e
      exact (I.hok b v e).stay (fun _ _ _ q => q) (fun c q => own c _ q) tup
/-- .. behind an expression -/
def tThawE (H0 : Hp) (t : TE) : TE := fun σ H Q => t σ H fun v H' => ∃ a o u, H' a = some (.frz o u) ∧ (∀ o' u', H0 a ≠ some (.frz o' u')) ∧ Mut (some u) ∧ Q v (upd H' a u)
theorem pe_thaw {e : Expr} {t : TE} (h : PE X e t) : PE X e (tThawE X.H₀ t) := by
  intro pins s σ H Q I q
  refine thn (h pins s σ H _ I q) fun v s1 ⟨x, H1, I1, r, a, o, u, ha, h0, hm, q⟩ => ?_
  exact ⟨x, _, I1.thaw ha h0 hm, r, q⟩
end
theorem kv_get {kvs : List (Key × V)} {vs : List (Key × Value)} : ∀ {i : Nat} {kv : Key × V}, KV kvs vs → kvs[i]? = some kv → ∃ v, vs[i]? = some (kv.1, v) ∧ RelV kv.2 v := by
  intro i kv r
  unfold KV at r
  induction r generalizing i with
  | nil => intro e; simp at e
  | @cons p q ps qs h t ih =>
    intro e
    cases i with
    | zero =>
      have e' := Option.some.inj e
      subst e'
      exact ⟨q.2, by rw [h.1]; rfl, h.2⟩
    | succ i => exact ih e
end L2
/-! OWN RULES: d.values() walked -/
namespace L2
open PySem PySem.Spec PyProof.Rows
/-- a view of the values of the dict at d -/
def ViewV (v d : Addr) : HO := .ext fun h => h.IsValuesView v d
/-- the values of a dict of ints and texts that is held fast -/
def Itv (a : Addr) (o : Obj) (kvs : List (Key × V)) : It where
  go := fun i H => i < kvs.length ∧ H a = some (.frz o (.dK kvs))
  yld := fun i H x H' => H' = H ∧ ∃ kv, kvs[i]? = some kv ∧ x = kv.2
  stop := fun i H => kvs.length ≤ i ∧ H a = some (.frz o (.dK kvs))
section
variable {X : Cx}
theorem mt_values : MtR X "dict.values" (fun x xs H Q => ∃ d kvs, x = .ref d ∧ xs = [] ∧ H d = some (.dK kvs) ∧ ∀ p, H p = none → Q (.ref p) (upd H p (ViewV p d))) := by
  intro pins s σ H x xs v us Q I rx rs h
  obtain ⟨d, kvs, rfl, rfl, hq, q⟩ := h
  cases rx
  cases rs
  obtain ⟨hz, hs, vs, r, hd⟩ := I.hok d _ hq
  refine call_meetsIn PySem.F.slot_dict_values hd.typeIs PySem.F.entry_dict_values (PySem.F.args_dict_values_1 _) (meets_dict_values (mixKind X.prog X.w) d hs) ⟨⟨vs, hd⟩, ?_⟩
  refine ⟨.ref s.heap.objs.size, _, I.laid (t' := s.toks) (o := ViewV s.heap.objs.size d) (fun b ob q => Heap.get?_push_of_some _ q) (Nat.le_refl _) ?_, rfl, q _ I.fresh⟩
  refine ⟨⟨_, Heap.get?_push_size _ rfl, rfl, rfl⟩, ⟨_, Heap.get?_push_size _ rfl⟩, fun h1 h2 p k => ?_⟩
  obtain ⟨o, e, c, d⟩ := p
  exact ⟨o, k o e, c, d⟩
end
theorem turn_vK {P : Program} {w : World} {K : PySem.W.Frag} {tg : Expr} (a it : Addr) (o : Obj) (kvs : List (Key × V)) (es : Array DictEntry) (ep : Nat) (hd : o.data = .dict es ep) : Turn P w K tg (Itv a o kvs) [it] it (fun i h => h.IsValIter it a i kvs.length ep) where
  mem := by simp
  obj := fun i h st b hb => by
    have e : b = it := by simpa using hb
    subst e
    obtain ⟨o, e, c, d⟩ := st
    exact ⟨o, e, fun v z => by rw [d] at z; cases z⟩
  keep := fun i h h' st k => st.at fun o e => k it (by simp) o e
  item := by
    intro X hP hw hK hc i pins s σ H E I hf st hg
    subst hP hw hK
    obtain ⟨hi, hq⟩ := hg
    obtain ⟨ho, hz, hs, vs, r, o', es', ep', ho', hx', hd', r1, r2, r3⟩ := I.hok a _ hq
    have eo : o' = o := Option.some.inj (ho'.symm.trans ho)
    subst eo
    have ee : ep' = ep := by
      rw [hd] at hd'
      cases hd'
      rfl
    subst ee
    have hlen : kvs.length = vs.length := Paired.length r
    have hm : s.heap.DictAt (mixKind X.prog X.w) a vs ep' := ⟨o', es', ho, hx', hd', r1, r2, r3⟩
    obtain ⟨kv, ekv⟩ : ∃ kv, kvs[i]? = some kv := ⟨kvs[i], by simp [hi]⟩
    obtain ⟨v, ev, rv⟩ := kv_get r ekv
    obtain ⟨f0, f1, f2, f3, f4, f5⟩ := hf it (by simp)
    rw [hlen] at st
    refine wpAny_pyNext_values_item st hm ev fun h' st' sb => ?_
    have I1 : Inv X pins σ H { s with heap := h' } := I.turned (t' := s.toks) (fun b o hb e => (sb.2 b hb).trans e) f0 f1 f3 f4 f5
    rw [← hlen] at st'
    obtain ⟨oi, ei, ci, di⟩ := id st'
    exact ⟨v, rfl, go_of (s := { s with heap := h' }) ei ci di (by decide) ⟨kv.2, H, I1, rv, ⟨rfl, kv, ekv, rfl⟩, st', fun b hb => (hf b hb).1⟩⟩
  done := by
    intro X hP hw hK hc i pins s σ H E I hf st hg
    subst hP hw hK
    obtain ⟨hi, hq⟩ := hg
    obtain ⟨ho, hz, hs, vs, r, o', es', ep', ho', hx', hd', r1, r2, r3⟩ := I.hok a _ hq
    have eo : o' = o := Option.some.inj (ho'.symm.trans ho)
    subst eo
    have ee : ep' = ep := by
      rw [hd] at hd'
      cases hd'
      rfl
    subst ee
    have hlen : kvs.length = vs.length := Paired.length r
    have hm : s.heap.DictAt (mixKind X.prog X.w) a vs ep' := ⟨o', es', ho, hx', hd', r1, r2, r3⟩
    obtain ⟨f0, f1, f2, f3, f4, f5⟩ := hf it (by simp)
    rw [hlen] at st
    exact wpAny_pyNext_values_end (I.ok.hd hc) st hm (List.getElem?_eq_none_iff.mpr (by omega)) fun h' eb => ⟨rfl, I.turned (t' := s.toks) (fun b o hb e => eb b o hb e) f0 f1 f3 f4 f5⟩
  self := fun _ _ _ _ _ st h => wpAny_pyIter_valiter st h
def iVk (tl : TE) : TI := fun σ H R => tl σ H fun x H1 => ∃ v a kvs, x = .ref v ∧ H1 v = some (ViewV v a) ∧ H1 a = some (.dK kvs) ∧ ∀ o, R (Itv a o kvs) (upd H1 a (.frz o (.dK kvs)))
theorem pi_vK {X : Cx} {tg l : Expr} {tl : TE} (hl : PE X l tl) : PI X tg l (iVk tl) := by
  intro pins s σ H R I h
  refine thn (hl pins s σ H _ I h) fun v s1 ⟨x, H1, I1, r1, q1⟩ => ?_
  obtain ⟨v, a, kvs, e, hv, hq, q⟩ := q1
  subst e
  cases r1
  obtain ⟨hz, hs, vs, r, o, es, ep, ho, hx, hd, r1, r2, r3⟩ := I1.hok a _ hq
  have hlen : kvs.length = vs.length := Paired.length r
  have hm : s1.heap.DictAt (mixKind X.prog X.w) a vs ep := ⟨o, es, ho, hx, hd, r1, r2, r3⟩
  obtain ⟨hvv, _, _⟩ := (show ObjOk X.prog X.w H1 s1.heap v (ViewV v a) from I1.hok v _ hv)
  refine wpAny_pyIter_values hvv hm ?_
  have I2 := I1.freeze (show Mut (some (HO.dK kvs)) from True.intro) hq ho
  have hn : upd H1 a (.frz o (.dK kvs)) s1.heap.objs.size = none := I2.hok.fresh (Nat.le_refl _)
  refine ⟨s1.heap.objs.size, [s1.heap.objs.size], _, _, _, rfl, I2.kept (t' := s1.toks) fun b o e => Heap.get?_push_of_some _ e, turn_vK a _ o kvs es ep hd, ?_, fun b hb => ?_, q o⟩
  · rw [hlen]
    exact ⟨_, Heap.get?_push_size _ rfl, rfl, rfl⟩
  · have e : b = s1.heap.objs.size := by simpa using hb
    subst e
    exact I2.fpOk (Nat.le_refl _) hn
end L2
/-! sorted of unlike tuples of ints -/
namespace SortT
open PySem PyProof.Rows PySem.W
/-- what a row of questions finds, where every question is answered by f and asks of two unlike things of n -/
def Wp (f : Nat → Nat → Bool) (n : Nat) {α : Type} : KasT α → (α → Prop) → Prop
  | .ret a, R => R a
  | .ask i j k, R => i < n ∧ j < n ∧ i ≠ j ∧ Wp f n (k (f i j)) R
theorem Wp.mono {f : Nat → Nat → Bool} {n : Nat} {α : Type} {R R' : α → Prop} (h : ∀ a, R a → R' a) : ∀ {t : KasT α}, Wp f n t R → Wp f n t R'
  | .ret a, q => h a q
  | .ask _ _ _, ⟨a, b, c, q⟩ => ⟨a, b, c, Wp.mono h q⟩
theorem Wp.bind {f : Nat → Nat → Bool} {n : Nat} {α β : Type} {g : α → KasT β} {R : β → Prop} : ∀ {t : KasT α}, Wp f n t (fun a => Wp f n (g a) R) → Wp f n (t.bind g) R
  | .ret _, q => q
  | .ask _ _ _, ⟨a, b, c, q⟩ => ⟨a, b, c, Wp.bind q⟩
structure Tot (f : Nat → Nat → Bool) (n : Nat) : Prop where
  tot : ∀ i j, i < n → j < n → i ≠ j → f i j = false → f j i = true
  asy : ∀ i j, i < n → j < n → f i j = true → f j i = false
  tr : ∀ i j k, i < n → j < n → k < n → f i j = true → f j k = true → f i k = true
def P (n : Nat) (p : Array Nat) : Prop := p.toList.Perm (List.range n)
section
variable {n : Nat} {p : Array Nat}
theorem P.size (h : P n p) : p.size = n := by
  have := h.length_eq
  rw [List.length_range] at this
  simpa using this
theorem getD_eq {k : Nat} (h : k < p.size) : p.getD k 0 = p[k] := by simp [Array.getD, h]
theorem P.lt (h : P n p) {k : Nat} (hk : k < n) : p.getD k 0 < n := by
  have hs := h.size
  rw [getD_eq (by omega)]
  exact List.mem_range.mp (h.mem_iff.mp (by simp))
theorem P.inj (h : P n p) {a b : Nat} (ha : a < n) (hb : b < n) (e : p.getD a 0 = p.getD b 0) : a = b := by
  have hs := h.size
  rw [getD_eq (by omega), getD_eq (by omega)] at e
  have nd : p.toList.Nodup := h.nodup_iff.mpr List.nodup_range
  exact (List.getElem_inj (h₀ := by simp; omega) (h₁ := by simp; omega) nd).mp (by simpa using e)
def Up (f : Nat → Nat → Bool) (p : Array Nat) (m : Nat) : Prop := ∀ a b, a < b → b < m → f (p.getD a 0) (p.getD b 0) = true
def Down (f : Nat → Nat → Bool) (p : Array Nat) (m : Nat) : Prop := ∀ a b, a < b → b < m → f (p.getD b 0) (p.getD a 0) = true
variable {f : Nat → Nat → Bool}
theorem Up.more (T : Tot f n) (hp : P n p) {m : Nat} (h1 : 1 ≤ m) (hm : m < n) (u : Up f p m) (h : f (p.getD (m - 1) 0) (p.getD m 0) = true) : Up f p (m + 1) := by
  intro a b ab bm
  by_cases e : b = m
  · subst e
    by_cases e2 : a = b - 1
    · subst e2
      exact h
    · exact T.tr _ _ _ (hp.lt (by omega)) (hp.lt (by omega)) (hp.lt hm) (u a (b - 1) (by omega) (by omega)) h
  · exact u a b ab (by omega)
theorem Down.more (T : Tot f n) (hp : P n p) {m : Nat} (h1 : 1 ≤ m) (hm : m < n) (u : Down f p m) (h : f (p.getD m 0) (p.getD (m - 1) 0) = true) : Down f p (m + 1) := by
  intro a b ab bm
  by_cases e : b = m
  · subst e
    by_cases e2 : a = b - 1
    · subst e2
      exact h
    · exact T.tr _ _ _ (hp.lt hm) (hp.lt (by omega)) (hp.lt (by omega)) h (u a (b - 1) (by omega) (by omega))
  · exact u a b ab (by omega)
theorem asc (T : Tot f n) (hp : P n p) : ∀ (c m : Nat), 1 ≤ m → m + c ≤ n → Up f p m → Wp f n (kas_asc p c m) fun r => m ≤ r ∧ r ≤ m + c ∧ Up f p r ∧ (r < m + c → f (p.getD r 0) (p.getD (r - 1) 0) = true)
  | 0, m, _, _, u => ⟨Nat.le_refl _, Nat.le_refl _, u, fun h => absurd h (by omega)⟩
  | c + 1, m, h1, hm, u => by
    refine ⟨hp.lt (by omega), hp.lt (by omega), fun e => ?_, ?_⟩
    · have := hp.inj (by omega) (by omega) e
      omega
    cases h : f (p.getD m 0) (p.getD (m - 1) 0) with
    | true => exact ⟨Nat.le_refl _, by omega, u, fun _ => h⟩
    | false =>
      have u' := u.more T hp h1 (by omega) (T.tot _ _ (hp.lt (by omega)) (hp.lt (by omega)) (fun e => by have := hp.inj (by omega) (by omega) e; omega) h)
      show Wp f n (kas_asc p c (m + 1)) _
      refine (asc T hp c (m + 1) (by omega) (by omega) u').mono fun r q => ?_
      exact ⟨by omega, by omega, q.2.2.1, fun z => q.2.2.2 (by omega)⟩
theorem desc (T : Tot f n) (hp : P n p) : ∀ (c m : Nat), 2 ≤ m → m + c ≤ n → Down f p m → Wp f n (kas_desc c p m 0) fun r => r.1 = p ∧ r.2.2 = 0 ∧ m ≤ r.2.1 ∧ r.2.1 ≤ m + c ∧ Down f p r.2.1
  | 0, m, _, _, u => ⟨rfl, rfl, Nat.le_refl _, Nat.le_refl _, u⟩
  | c + 1, m, h1, hm, u => by
    refine ⟨hp.lt (by omega), hp.lt (by omega), fun e => ?_, ?_⟩
    · have := hp.inj (by omega) (by omega) e
      omega
    cases h : f (p.getD m 0) (p.getD (m - 1) 0) with
    | true =>
      show Wp f n (kas_desc c p (m + 1) 0) _
      refine (desc T hp c (m + 1) (by omega) (by omega) (u.more T hp (by omega) (by omega) h)).mono fun r q => ?_
      exact ⟨q.1, q.2.1, by omega, by omega, q.2.2.2.2⟩
    | false =>
      have h' := T.tot _ _ (hp.lt (by omega)) (hp.lt (by omega)) (fun e => by have := hp.inj (by omega) (by omega) e; omega) h
      refine ⟨hp.lt (by omega), hp.lt (by omega), fun e => ?_, ?_⟩
      · have := hp.inj (by omega) (by omega) e
        omega
      rw [h']
      exact ⟨rfl, rfl, Nat.le_refl _, Nat.le_add_right _ _, u⟩
theorem getD_of {q : Array Nat} {a b : Nat} (e : q[a]? = p[b]?) : q.getD a 0 = p.getD b 0 := by
  rw [Array.getD_eq_getD_getElem?, Array.getD_eq_getD_getElem?, e]
theorem rev_at (hp : P n p) {m : Nat} (hm : m ≤ n) (k : Nat) : (kas_rev p 0 m).getD k 0 = if k < m then p.getD (m - 1 - k) 0 else p.getD k 0 := by
  have h := getElem?_mirror_all (xs := p) (i := 0) (j := m) (by rw [hp.size]; exact hm) k
  by_cases hk : k < m
  · rw [if_pos hk]
    rw [if_pos ⟨Nat.zero_le _, hk⟩] at h
    refine getD_of (h.trans ?_)
    congr 1
    omega
  · rw [if_neg hk]
    rw [if_neg (by omega)] at h
    exact getD_of h
theorem rev_P (hp : P n p) (m : Nat) : P n (kas_rev p 0 m) := (Array.perm_iff_toList_perm.mp (mirror_perm p 0 m _)).trans hp
theorem rev_up (hp : P n p) {m : Nat} (hm : m ≤ n) (d : Down f p m) : Up f (kas_rev p 0 m) m := by
  intro a b ab bm
  rw [rev_at hp hm, rev_at hp hm, if_pos (by omega), if_pos bm]
  exact d _ _ (by omega) (by omega)
theorem tail3 (T : Tot f n) (hp : P n p) {m : Nat} (h1 : 1 ≤ m) (hm : m ≤ n) (d : Down f p m) : Wp f n (kas_tail3 m n p) fun r => 1 ≤ r.1 ∧ r.1 ≤ n ∧ P n r.2 ∧ Up f r.2 r.1 := by
  refine Wp.bind ((asc T (rev_P hp m) (n - m) m h1 (by omega) (rev_up hp hm d)).mono fun r q => ?_)
  exact ⟨by omega, by omega, rev_P hp m, q.2.2.1⟩
theorem count (T : Tot f n) (hp : P n p) (h1 : 1 ≤ n) : Wp f n (kas_count n p) fun r => 1 ≤ r.1 ∧ r.1 ≤ n ∧ P n r.2 ∧ Up f r.2 r.1 := by
  refine Wp.bind ((asc T hp (n - 1) 1 (Nat.le_refl _) (by omega) (fun a b ab hb => absurd hb (by omega))).mono fun m q => ?_)
  obtain ⟨q1, q2, q3, q4⟩ := q
  by_cases e : m = n
  · rw [if_pos (by simp [e])]
    exact ⟨q1, by omega, hp, q3⟩
  · rw [if_neg (by simp [e])]
    by_cases e2 : m > 1
    · rw [if_pos e2]
      refine ⟨hp.lt (by omega), hp.lt (by omega), fun z => ?_, ?_⟩
      · have := hp.inj (by omega) (by omega) z
        omega
      rw [q3 0 (m - 1) (by omega) (by omega)]
      exact ⟨q1, by omega, hp, q3⟩
    · rw [if_neg e2]
      have e3 : m = 1 := by omega
      subst e3
      have h := q4 (by omega)
      have d2 : Down f p 2 := fun a b ab hb => by
        have ea : a = 0 := by omega
        have eb : b = 1 := by omega
        subst ea eb
        exact h
      refine Wp.bind ((desc T hp (n - 2) 2 (Nat.le_refl _) (by omega) d2).mono fun r q => ?_)
      obtain ⟨r1, r2, r3, r4, r5⟩ := q
      rw [if_neg (by omega), r1]
      exact tail3 T hp (by omega) (by omega) r5
theorem place (T : Tot f n) (hp : P n p) {k : Nat} (hk : k < n) (u : Up f p k) : ∀ (c l r : Nat), l ≤ r → r ≤ k → r - l ≤ c → (∀ i, i < l → f (p.getD i 0) (p.getD k 0) = true) → (∀ i, r ≤ i → i < k → f (p.getD k 0) (p.getD i 0) = true) →
    Wp f n (kas_place p k c l r) fun q => q ≤ k ∧ (∀ i, i < q → f (p.getD i 0) (p.getD k 0) = true) ∧ (∀ i, q ≤ i → i < k → f (p.getD k 0) (p.getD i 0) = true)
  | 0, l, r, h1, h2, h3, h4, h5 => ⟨by omega, h4, fun i a b => h5 i (by omega) b⟩
  | c + 1, l, r, h1, h2, h3, h4, h5 => by
    show Wp f n (if l ≥ r then .ret l else _) _
    by_cases e : l ≥ r
    · rw [if_pos e]
      exact ⟨by omega, h4, fun i a b => h5 i (by omega) b⟩
    · rw [if_neg e]
      refine ⟨hp.lt hk, hp.lt (by omega), fun z => ?_, ?_⟩
      · have := hp.inj hk (by omega) z
        omega
      cases h : f (p.getD k 0) (p.getD ((l + r) / 2) 0) with
      | true =>
        show Wp f n (kas_place p k c l ((l + r) / 2)) _
        refine place T hp hk u c l _ (by omega) (by omega) (by omega) h4 fun i a b => ?_
        by_cases ei : i = (l + r) / 2
        · rw [ei]
          exact h
        · exact T.tr _ _ _ (hp.lt hk) (hp.lt (by omega)) (hp.lt (by omega)) h (u _ _ (by omega) b)
      | false =>
        have h' := T.tot _ _ (hp.lt hk) (hp.lt (by omega)) (fun z => by have := hp.inj hk (by omega) z; omega) h
        show Wp f n (kas_place p k c ((l + r) / 2 + 1) r) _
        refine place T hp hk u c _ r (by omega) h2 (by omega) (fun i a => ?_) h5
        by_cases ei : i = (l + r) / 2
        · rw [ei]
          exact h'
        · exact T.tr _ _ _ (hp.lt (by omega)) (hp.lt (by omega)) (hp.lt hk) (u _ _ (by omega) (by omega)) h'
end
end SortT
namespace L2
open PySem PySem.Spec PyProof.Rows PySem.W
section
variable {prog : Program} {w : World} {A : Around} {E : Value → Shared → Prop} {s : Shared}
end
section
variable {X : Cx} {pins : List (Addr × Obj)} {σ : St} {H : Hp} {s : Shared}
end
end L2
/-! OWN RULES: a tuple of ints in a list of such -/
namespace L2
open PySem PySem.Spec PyProof.Rows
section
variable {X : Cx} {pins : List (Addr × Obj)} {σ : St} {H : Hp} {s : Shared}
end
section
variable {X : Cx}
end
end L2
/-! OWN RULES: a list comprehension whose element calls a def from which exceptions may leave (no names of the def around are used in it) -/
namespace L2
open PySem PySem.Spec PyProof.Rows
section
variable {X : Cx} {pins : List (Addr × Obj)} {σ : St} {H H' : Hp} {s s' : Shared} {ea : Addr} {cls : Value}
end
section
variable {X : Cx} {scope : Scope} {N' : List Str} {ix : List (Option Nat)} {C : Addr} {fp : List Addr} {s₂ : Shared} {H₂ : Hp} {pins : List (Addr × Obj)} {σ : St}
end
section
variable {prog : Program} {w : World} {A : Around} {R : Result → Shared → Prop} {s : Shared}
end
section
variable {X : Cx} {scope : Scope} {N' : List Str} {ix : List (Option Nat)}
variable {tg iter elt : Expr} {ifs : List Expr} {pos : Pos} {wi : TI} {g : TG} {ti : TT} {te : TE} {W : Value → Hp → Prop}
end
end L2
/-! OWN RULES: {k: v for tg in iter if ..}; the dict that is made is tracked from the start -/
namespace L2
open PySem PySem.Spec PyProof.Rows
section
variable {X : Cx} {pins : List (Addr × Obj)} {σ : St} {H : Hp} {s : Shared} {a : Addr} {y v : V} {u r : Value} {A : Around} {E : Value → Shared → Prop}
end
section
variable {prog : Program} {w : World} {A : Around} {R : Result → Shared → Prop} {s : Shared}
end
section
variable {X : Cx} {scope : Scope} {N' : List Str} {ix : List (Option Nat)} {C : Addr} {fp : List Addr} {s₂ : Shared} {H₂ : Hp} {pins : List (Addr × Obj)} {σ : St}
end
section
variable {X : Cx}
variable {scope : Scope} {N' : List Str} {ix : List (Option Nat)} {tg iter kx vx : Expr} {ifs : List Expr} {pos : Pos} {wi : TI} {g : TG} {ti : TT} {tk tv : TE}
end
/-! ### the forms one uses -/
end L2
/-! OWN RULES: enumerate(xs) walked into a tuple of names -/
namespace L2
open PySem PySem.Spec PyProof.Rows
section
variable {X : Cx} {pins : List (Addr × Obj)} {σ : St} {H : Hp} {s : Shared} {h' : Heap}
end
end L2
/-! OWN RULES: min of a list, by comparisons of what stands there; sorted of ints; len and a walk of dicts of tuples -/
namespace L2
open PySem PySem.Spec PyProof.Rows
abbrev lst0 (its : Array Value) (c : Nat) : Obj := { cls := .type "list", dict := none, data := .seq its c, slots := #[] }
/-- min's loop: j items are taken, the best of them stands at S -/
structure MinSt (s : Shared) (l it S : Addr) (vs : List Value) (bt : Nat → Nat → Bool) (j : Nat) (s' : Shared) : Prop where
  same : s' = { s with heap := s'.heap, toks := s'.toks }
  it : s'.heap.IsListIter it l j
  old : ∀ b o, s.heap.get? b = some o → s'.heap.get? b = some o
  le : j ≤ vs.length
  best : (j = 0 ∧ ∃ c, s'.heap.get? S = some (lst0 #[] c)) ∨ ∃ k v c, j = k + 1 ∧ vs[argBest bt k]? = some v ∧ s'.heap.get? S = some (lst0 #[v, v] c)
section
variable {prog : Program} {w : World} {A : Around} {s : Shared} {l it S : Addr} {vs : List Value} {bt : Nat → Nat → Bool} {R : Result → Shared → Prop}
end
section
variable {prog : Program} {w : World} {A : Around} {s : Shared} {l : Addr} {vs : List Value} {bt : Nat → Nat → Bool} {E : Value → Shared → Prop}
end
section
variable {X : Cx}
end
end L2
/-! OWN RULES: within a comprehension's block, with the text's fragment said outright -/
namespace L2
open PySem PySem.Spec PyProof.Rows
section
variable {X : Cx} {K : PySem.W.Frag}
theorem pg_tupK {es : List Expr} {k : Nat} {pos : Pos} {t : TGs} (hK : X.K = K) (hc : X.calm = true) (n : Nat) (h : PGs X es t) (hn : (assignEach es X.env).length = n) (hst : (assignEach es X.env).findIdx? (·.1) = none) : PG X (.Tuple es k pos) (gTup K n t) := by
  subst hK
  exact pg_tup hc h hn hst
theorem ix_tupK (hK : X.K = K) : IxR X (rIxT K) := by
  subst hK
  exact ix_tup
end
end L2
/-! OWN RULES: d.setdefault(k, x) of a dict whose keys are tuples; xs.insert(i, x) -/
namespace PySem
section
variable {prog : Program} {w : World} {K : Type} [DecidableEq K] {knd : HeapKind prog w K} {A : Around} {E : Value → Shared → Prop} {s : Shared}
end
end PySem
namespace L2
open PySem PySem.Spec PyProof.Rows
section
variable {X : Cx} {o e f : Expr} {apos cpos : Pos} {td ty tx : TE}
end
end L2
/-! OWN RULES: the keys of a dict of tuples walked -/
namespace PySem
section
variable {prog : Program} {w : World} {A : Around} {E : Value → Shared → Prop} {s : Shared}
end
end PySem
namespace L2
open PySem PySem.Spec PyProof.Rows
theorem paired_get {α β : Type} {F : α → β → Prop} : ∀ {xs : List α} {ys : List β} {i : Nat} {x : α}, Paired F xs ys → xs[i]? = some x → ∃ y, ys[i]? = some y ∧ F x y
  | _, _, _, _, .nil, e => by simp at e
  | _, _, 0, _, .cons h _, e => by
    cases Option.some.inj e
    exact ⟨_, rfl, h⟩
  | _, _, i + 1, _, .cons _ r, e => paired_get (i := i) r e
end L2
/-! OWN RULES: the items of a dict, whatever its keys: one step of the walk -/
namespace PySem
section
variable {prog : Program} {w : World} {A : Around} {E : Value → Shared → Prop} {s : Shared}
end
end PySem
/-! OWN RULES: a set of ints below 6, made of a list, and sorted -/
namespace L2
open PySem PySem.Spec PyProof.Rows
/-- all rising rows of numbers below n -/
def subsF : Nat → List (List Nat)
  | 0 => [[]]
  | n + 1 => subsF n ++ (subsF n).map (· ++ [n])
/-- the table of such a set -/
def tabF (led : Bool) (js : List Nat) : SetTable := { mask := if js.length < 5 then 7 else 31, place := js.toArray, dummies := #[], finger := 0, led := led, moves := if js.length < 5 then 0 else 1, plain := true }
/-- the elements of such a set, as they lie there -/
def esF (tk : Nat → Tok) (js : List Nat) : List (Int × Value) := js.map fun (j : Nat) => ((j : Int), Value.int (j : Int) (tk j))
def ledF (w : World) : Bool := !w.params.followText "set-order"
/-- a set of ints at a -/
def SetAt (w : World) (h : Heap) (a : Addr) (js : List Nat) : Prop := ∃ o tk ep, h.get? a = some o ∧ o.ExactSet ∧ o.data = .set (esF tk js).toArray ep (tabF (ledF w) js)
section
variable {prog : Program} {w : World} {A : Around} {E : Value → Shared → Prop} {s : Shared} {a : Addr} {js : List Nat}
/-- set.update's loop over a list of ints -/
structure UpdSt (s : Shared) (l it S : Addr) (w : World) (ns : List Int) (i : Nat) (s' : Shared) : Prop where
  same : s' = { s with heap := s'.heap, toks := s'.toks }
  it : s'.heap.IsListIter it l i
  old : ∀ b o, s.heap.get? b = some o → s'.heap.get? b = some o
  le : i ≤ ns.length
  set : ∃ js, js ∈ subsF 6 ∧ (∀ k : Nat, k ∈ js ↔ (k : Int) ∈ ns.take i) ∧ SetAt w s'.heap S js
theorem SetAt.keep {h h' : Heap} (x : SetAt w h a js) (k : ∀ o, h.get? a = some o → h'.get? a = some o) : SetAt w h' a js := by
  obtain ⟨o, tk, ep, e, r⟩ := x
  exact ⟨o, tk, ep, k o e, r⟩
/-- the iterator of a set, i items told -/
def SetIt (w : World) (h : Heap) (it a : Addr) (js : List Nat) (ep i : Nat) : Prop := ∃ o, ∃ slot : Nat, h.get? it = some o ∧ o.cls = .type "set_iterator" ∧ o.data = .fields #[.int (slot : Int) 0, .int i 0, .ref a, .int js.length 0, .int ep 0] ∧
  (w.params.followText "set-order" = false → slot = if i = 0 then 0 else js.getD (i - 1) 0 + 1)
/-- a set whose object is known -/
def SetK (w : World) (h : Heap) (a : Addr) (js : List Nat) (tk : Nat → Tok) (ep : Nat) : Prop := ∃ o, h.get? a = some o ∧ o.ExactSet ∧ o.data = .set (esF tk js).toArray ep (tabF (ledF w) js)
end
section
variable {prog : Program} {w : World} {A : Around} {E : Value → Shared → Prop} {s : Shared} {a : Addr} {js : List Nat}
end
section
variable {prog : Program} {w : World} {A : Around} {E : Value → Shared → Prop} {s : Shared} {a : Addr} {js : List Nat}
theorem SetK.keep {tk : Nat → Tok} {ep : Nat} {h h' : Heap} (x : SetK w h a js tk ep) (k : ∀ o, h.get? a = some o → h'.get? a = some o) : SetK w h' a js tk ep := by
  obtain ⟨o, e, r⟩ := x
  exact ⟨o, k o e, r⟩
theorem SetIt.keep {it : Addr} {ep i : Nat} {h h' : Heap} (x : SetIt w h it a js ep i) (k : ∀ o, h.get? it = some o → h'.get? it = some o) : SetIt w h' it a js ep i := by
  obtain ⟨o, sl, e, r⟩ := x
  exact ⟨o, sl, k o e, r⟩
end
section
variable {X : Cx}
end
end L2
/-! OWN RULES: != of two dicts that tell the same -/
namespace L2
open PySem PySem.Spec PyProof.Rows
section
variable {K : Type} [DecidableEq K]
end
section
variable {prog : Program} {w : World} {A : Around} {E : Value → Shared → Prop} {s : Shared}
end
section
variable {X : Cx}
end
end L2
/-! OWN RULES: min of a list of tuples of ints that rise; a dict comprehension over the keys of a dict of tuples -/
namespace L2
open PySem PySem.Spec PyProof.Rows
section
variable {X : Cx}
end
section
variable {X : Cx} {K : PySem.W.Frag}
end
end L2
/-! OWN RULES: the items of a dict of tuples walked into a pair of names -/
namespace L2
open PySem PySem.Spec PyProof.Rows
section
variable {X : Cx}
end
end L2
/-! OWN RULES: isinstance(x, (list, tuple)); a walk of either -/
namespace L2
open PySem PySem.Spec PyProof.Rows
section
variable {X : Cx}
end
end L2
/-! OWN RULES: C(e, k = v, ..) of an own class; a method with two or three keywords -/
namespace L2
open PySem PySem.Spec PyProof.Rows
def kb23 {α : Type} : List α → List α → List α
  | [u0, u1], [w0, w1, w2] => [u0, u1, w0, w1, w2]
  | _, _ => []
theorem kb_rel23 {vs : List V} {us : List Value} {zs : List V} {ws : List Value} (r1 : Vals vs us) (r2 : Vals zs ws) : Vals (kb23 vs zs) (kb23 us ws) := by
  rcases r1 with _ | ⟨a, _ | ⟨a2, _ | ⟨_, _⟩⟩⟩ <;> rcases r2 with _ | ⟨b, _ | ⟨c, _ | ⟨d, _ | ⟨_, _⟩⟩⟩⟩
  all_goals first | exact .nil | exact .cons a (.cons a2 (.cons b (.cons c (.cons d .nil))))
section
variable {X : Cx} {CX : CXT} {k : Nat} {C f : Addr} {fd : FuncData} {ps ks : List Str} {sp : Sp} {E : XK} {g : List Value → List Value → List Value} {gV : List V → List V → List V} {x : Str} {p pos : Pos} {e : Expr} {es : List Expr} {kws : List Keyword} {t tk : TA}
theorem run_makeK {pins : List (Addr × Obj)} {σ : St} {H : Hp} {s : Shared} {Q : VK} {us ws : List Value} {vs zs : List V} (M : Mk X.K C f) (F : FnOk X.prog X.w X.K X.mg X.base CX k f fd ps sp) (hr : Room (k + 1) X.A) (hb : KBinds X.K fd ps ks g gV)
    (hx : Passes CX X E) (I : Inv X pins σ H s) (r : Vals vs us) (rz : Vals zs ws)
    (h : ∀ x dx, H x = none → H dx = none → dx ≠ x → sp (gV (.ref x :: vs) zs) (upd (upd H dx (.own x)) x (.ins C dx [])) (fun v H2 => v = .non ∧ Q (.ref x) H2) E) :
    wpAny (model X.prog X.w) X.A (call (.ref C) us (ks.zip ws)) (EP X pins σ Q) X.xe s := by
  have hq := h (s.heap.objs.size + 1) s.heap.objs.size (I.hok.fresh (Nat.le_succ _)) (I.hok.fresh (Nat.le_refl _)) (Nat.ne_of_lt (Nat.lt_succ_self _))
  have I2 := Inv.made (C := C) I
  have r2 := hb.rel (Paired.cons (show RelV (V.ref (s.heap.objs.size + 1)) (Value.ref (s.heap.objs.size + 1)) from rfl) r) rz
  have hl : (g (Value.ref (s.heap.objs.size + 1) :: us) ws).length = ps.length := by
    rw [← Paired.length r2]
    exact F.len _ _ _ _ hq
  refine wpAny_call (make_map (f := f) I.kIn M.makes M.init (beq_iff_eq.mp M.fn) (codeAny_mono (F.run _ X.stack _ _ ⟨Value.ref (s.heap.objs.size + 1) :: us, ks.zip ws⟩ _ _ _ E (hr.make C us (ks.zip ws))
    (I2.env0.make C us (ks.zip ws)) (hb.to _ _ _ I2.kIn hl) r2 hq) fun r s' hq' => ?_))
  cases r with
  | error e => exact hx pins σ _ _ e s' I2 hq'
  | ok fl =>
    cases fl with
    | ret u =>
      obtain ⟨v, H', I3, rv, ev, q3⟩ := I2.after hq'
      subst ev
      exact ⟨rv, ⟨V.ref (s.heap.objs.size + 1), H', I3, rfl, q3⟩⟩
    | next => exact False.elim hq'
    | brk => exact False.elim hq'
    | cont => exact False.elim hq'
def tMakeK (C : Addr) (sp : Sp) (gV : List V → List V → List V) (E : XK) (t tk : TA) : TE := fun σ H Q => t σ H fun vs H1 => tk σ H1 fun zs H2 => ∀ x dx, H2 x = none → H2 dx = none → dx ≠ x → sp (gV (.ref x :: vs) zs) (upd (upd H2 dx (.own x)) x (.ins C dx [])) (fun v H3 => v = .non ∧ Q (.ref x) H3) E
/-- C(e, .., k = v, ..) -/
theorem pe_makeK (M : Mk X.K C f) (F : FnOk X.prog X.w X.K X.mg X.base CX k f fd ps sp) (hr : Room (k + 1) X.A) (hg : Gl X x) (hm : X.mg x = some (.ref C)) (hb : KBinds X.K fd ps ks g gV) (hx : Passes CX X E)
    (ha : PA X (e :: es) t) (hkw : PK X kws tk) (hall : (backToKw pos (keywordEach kws X.env)).all (·.1.isSome) = true := by rfl) (hks : (backToKw pos (keywordEach kws X.env)).filterMap (·.1) = ks := by rfl)
    (hdb : (x == ("__debug__" : Str)) = false := by decide) (he : starEach (e :: es) X.env = (false, eval e X.env) :: starEach es X.env := by rfl)
    (hpl : ((backTo pos (starEach (e :: es) X.env)).any (·.1) || (backToKw pos (keywordEach kws X.env)).any (·.1.isNone)) = false := by rfl) :
    PE X (.Call (.Name x p) (e :: es) kws pos) (tMakeK C sp gV E t tk) := by
  intro pins s σ H Q I h
  refine wpAny_Call_Name_kw (ld_glob I hg hm ?_ hdb)
  refine PySem.W.callWith_KW (h₀ := X.base) I.ok.mod.kin M.kp hall (thn (ha pos pins s σ H _ I h) fun us s1 ⟨vs, H1, I1, r, q⟩ => ?_) hpl he
  refine thn (hkw pos pins s1 σ H1 _ I1 q) fun ws s2 ⟨zs, H2, I2, rz, q2⟩ => ⟨I2.kIn, ?_⟩
  rw [hks]
  exact run_makeK M F hr hb hx I2 r rz q2
end
section
variable {X : Cx}
end
section
variable {X : Cx} {K : PySem.W.Frag}
end
end L2
/-! OWN RULES: what a frame does with an exception that passes it lets each object keep its dict -/
namespace L2
open PySem PySem.Spec PyProof.Rows
/-- a piece of a run that calls nothing, and whose changes let an object keep its dict and its life -/
def DK {α : Type} : Sem α → Prop
  | .pure _ => True
  | .raise _ => True
  | .unsupported _ => True
  | .finish _ => True
  | .rule _ k => DK (k ())
  | .at _ k => DK (k ())
  | .load _ _ k => ∀ o, DK (k o)
  | .update _ _ f k => (∀ o : Obj, (f o).dict = o.dict ∧ (o.isFreed = false → (f o).isFreed = false)) ∧ DK (k ())
  | .loadIfAlive _ k => ∀ o, DK (k o)
  | .point _ k => DK (k ())
  | .register _ _ => True
  | .alloc _ k => ∀ a, DK (k a)
  | .fresh k => ∀ t, DK (k t)
  | .ask k => ∀ x, DK (k x)
  | .handled _ k => ∀ x, DK (k x)
  | .stack k => ∀ x, DK (k x)
  | _ => False
theorem dk_bind' {α β : Type} {f : α → Sem β} (hf : ∀ a, DK (f a)) (m : Sem α) (h : DK m) : DK (m.bind f) := by
  induction m with
  | pure a => exact hf a
  | raise _ => exact True.intro
  | unsupported _ => exact True.intro
  | finish _ => exact True.intro
  | rule _ k ih => exact ih () h
  | «at» _ k ih => exact ih () h
  | load _ _ k ih => exact fun o => ih o (h o)
  | update _ _ _ k ih => exact ⟨h.1, ih () h.2⟩
  | loadIfAlive _ k ih => exact fun o => ih o (h o)
  | point _ k ih => exact ih () h
  | register _ _ _ => exact True.intro
  | alloc _ k ih => exact fun a => ih a (h a)
  | fresh k ih => exact fun a => ih a (h a)
  | ask k ih => exact fun a => ih a (h a)
  | handled _ k ih => exact fun a => ih a (h a)
  | stack k ih => exact fun a => ih a (h a)
  | choose _ _ _ _ => exact False.elim h
  | os _ _ _ _ => exact False.elim h
  | call _ _ _ _ _ _ => exact False.elim h
  | newGen _ _ _ => exact False.elim h
  | genState _ _ _ => exact False.elim h
  | resume _ _ _ _ _ => exact False.elim h
  | yield _ _ _ _ _ => exact False.elim h
  | fork _ _ _ => exact False.elim h
  | thread _ _ => exact False.elim h
  | await _ _ _ _ _ _ => exact False.elim h
theorem dk_bind {α β : Type} {m : Sem α} {f : α → Sem β} (hm : DK m) (hf : ∀ a, DK (f a)) : DK (m >>= f) := dk_bind' hf m hm
theorem dk_load {a : Addr} : DK (load a) := fun _ => True.intro
theorem dk_alloc {o : Obj} : DK (alloc o) := fun _ => True.intro
theorem dk_stack : DK stack := fun _ => True.intro
theorem dk_update {a : Addr} {f : Obj → Obj} (h : ∀ o : Obj, (f o).dict = o.dict ∧ (o.isFreed = false → (f o).isFreed = false)) : DK (update a f) := ⟨h, True.intro⟩
/-- each object is there still, with its dict -/
def KD (h h' : Heap) : Prop := ∀ b o, h.get? b = some o → ∃ o', h'.get? b = some o' ∧ o'.dict = o.dict
theorem KD.refl (h : Heap) : KD h h := fun _ o e => ⟨o, e, rfl⟩
theorem KD.trans {a b c : Heap} (x : KD a b) (y : KD b c) : KD a c := fun i o e => by
  obtain ⟨o1, e1, d1⟩ := x i o e
  obtain ⟨o2, e2, d2⟩ := y i o1 e1
  exact ⟨o2, e2, d2.trans d1⟩
theorem KD.push (h : Heap) (o : Obj) : KD h (h.push o) := fun _ o' e => ⟨o', Heap.get?_push_of_some o e, rfl⟩
theorem KD.update {h : Heap} {a : Addr} {f : Obj → Obj} (hf : ∀ o : Obj, (f o).dict = o.dict ∧ (o.isFreed = false → (f o).isFreed = false)) : KD h (h.update a f) := fun b o e => by
  by_cases z : a = b
  · subst z
    exact ⟨f o, Heap.get?_update_self f e ((hf o).2 (Heap.get?_some_iff.mp e).2), (hf o).1⟩
  · exact ⟨o, by rw [Heap.get?_update_other h f z]; exact e, rfl⟩
theorem wp_dk {α : Type} {M : Model} {Γ : PySem.Ctx} {Q : α → Pos → Shared → Prop} {E : Value → Pos → Shared → Prop} (t : Sem α) (p : Pos) (s : Shared) (d : DK t) (h : Sem.wp M Γ t Q E p s) :
    Sem.wp M Γ t (fun a p' s' => Q a p' s' ∧ KD s.heap s'.heap) (fun e p' s' => E e p' s' ∧ KD s.heap s'.heap) p s := by
  induction t generalizing p s with
  | pure a => rw [Sem.wp] at h ⊢; exact ⟨h, KD.refl _⟩
  | raise _ => rw [Sem.wp] at h ⊢; exact ⟨h, KD.refl _⟩
  | unsupported _ => rw [Sem.wp] at h; exact h.elim
  | finish _ => rw [Sem.wp] at h; exact h.elim
  | rule _ k ih => rw [Sem.wp] at h ⊢; exact ih () p s d h
  | «at» p' k ih => rw [Sem.wp] at h ⊢; exact ih () p' s d h
  | load a x k ih =>
    rw [Sem.wp] at h ⊢
    obtain ⟨o, e, h⟩ := h
    exact ⟨o, e, ih o p s (d o) h⟩
  | update a x f k ih =>
    rw [Sem.wp] at h ⊢
    obtain ⟨e, h⟩ := h
    exact ⟨e, Sem.wp_mono M Γ (k ()) (fun _ _ s' q => ⟨q.1, (KD.update d.1).trans q.2⟩) (fun _ _ s' q => ⟨q.1, (KD.update d.1).trans q.2⟩) p _ (ih () p _ d.2 h)⟩
  | loadIfAlive a k ih => rw [Sem.wp] at h ⊢; exact ih _ p s (d _) h
  | point _ k ih => rw [Sem.wp] at h ⊢; exact ih () p s d h
  | register _ _ _ => rw [Sem.wp] at h; exact h.elim
  | alloc o k ih =>
    rw [Sem.wp] at h ⊢
    exact Sem.wp_mono M Γ (k s.heap.objs.size) (fun _ _ s' q => ⟨q.1, (KD.push _ o).trans q.2⟩) (fun _ _ s' q => ⟨q.1, (KD.push _ o).trans q.2⟩) p _ (ih _ p _ (d _) h)
  | fresh k ih => rw [Sem.wp] at h ⊢; exact ih _ p _ (d _) h
  | ask k ih => rw [Sem.wp] at h ⊢; exact ih _ p s (d _) h
  | handled own k ih => rw [Sem.wp] at h ⊢; exact ih _ p s (d _) h
  | stack k ih => rw [Sem.wp] at h ⊢; exact ih _ p s (d _) h
  | choose _ _ _ _ => exact False.elim d
  | os _ _ _ _ => exact False.elim d
  | call _ _ _ _ _ _ => exact False.elim d
  | newGen _ _ _ => exact False.elim d
  | genState _ _ _ => exact False.elim d
  | resume _ _ _ _ _ => exact False.elim d
  | yield _ _ _ _ _ => exact False.elim d
  | fork _ _ _ => exact False.elim d
  | thread _ _ => exact False.elim d
  | await _ _ _ _ _ _ => exact False.elim d
theorem wpAny_dk {α : Type} {M : Model} {A : Around} {t : Sem α} {Q : α → Shared → Prop} {E : Value → Shared → Prop} {s : Shared} (d : DK t) (h : wpAny M A t Q E s) : wpAny M A t (fun a s' => Q a s' ∧ KD s.heap s'.heap) (fun e s' => E e s' ∧ KD s.heap s'.heap) s :=
  fun Γ p hΓ => wp_dk t p s d (h Γ p hΓ)
theorem dk_fieldsOf {v : Value} : DK (fieldsOf v) := by
  unfold fieldsOf
  split
  · refine dk_bind dk_load fun o => ?_
    split <;> exact True.intro
  · exact True.intro
theorem dk_field {v : Value} {i : Nat} : DK (field v i) := by
  unfold field
  refine dk_bind dk_fieldsOf fun vs => ?_
  split <;> exact True.intro
theorem dk_mapFields (f : Array Value → Array Value) (o : Obj) : (Obj.mapFields f o).dict = o.dict ∧ (o.isFreed = false → (Obj.mapFields f o).isFreed = false) := by
  obtain ⟨c, d, dt, sl⟩ := o
  cases dt <;> exact ⟨rfl, fun h => h⟩
theorem dk_setField {v x : Value} {i : Nat} : DK (setField v i x) := by
  unfold setField
  split
  · unfold updateField
    refine dk_bind dk_load fun o => ?_
    split
    · split
      · exact dk_update (dk_mapFields _)
      · exact True.intro
    · exact True.intro
  · exact True.intro
theorem dk_setFlight {e : Value} {f : Option Addr} : DK (setFlight e f) := by
  unfold setFlight
  refine dk_bind dk_field fun tb => ?_
  split
  · exact dk_setField
  · exact True.intro
theorem dk_readyFrames : ∀ l : List Env, DK (readyFrames l)
  | [] => True.intro
  | env :: outer => by
    unfold readyFrames
    split
    · refine dk_bind dk_load fun o => ?_
      split
      · exact True.intro
      · refine dk_bind ?_ fun im => dk_bind ?_ fun back => dk_bind (dk_update fun o => ⟨rfl, fun h => ?_⟩) fun _ => dk_readyFrames outer
        · unfold behindIsImport
          split
          · exact True.intro
          · split
            · exact True.intro
            · exact dk_bind dk_field fun _ => True.intro
        · unfold keptBack
          split
          · split
            · exact True.intro
            · refine dk_bind ?_ fun _ => True.intro
              unfold underTheClaimsCaller
              exact dk_bind dk_stack fun _ => True.intro
          · exact True.intro
        · obtain ⟨c, d, dt, sl⟩ := o
          cases dt <;> exact h
    · exact True.intro
theorem dk_frameOf {env : Env} : DK (PySem.frameOf env) := by
  unfold PySem.frameOf
  refine dk_bind (dk_bind dk_stack fun _ => True.intro) fun es => dk_bind ?_ fun r => ?_
  · cases es.dropWhile (·.frame != env.frame) with
    | nil => exact True.intro
    | cons e r =>
      unfold frameObject
      exact dk_bind (dk_readyFrames _) fun _ => True.intro
  · split <;> exact True.intro
theorem dk_newFields {ty : String} {vs : List Value} : DK (newFields ty vs) := by
  unfold newFields newObj
  dsimp only
  have rest : DK (newObjAsIs (Value.type ty) (Data.fields vs.toArray)) := by
    unfold newObjAsIs
    exact dk_bind dk_alloc fun _ => True.intro
  split
  · exact dk_bind True.intro fun _ => rest
  · exact rest
theorem dk_entryPlace {f : Addr} {b : Bool} : DK (entryPlaceOf f b) := by
  unfold entryPlaceOf
  refine dk_bind dk_stack fun acts => ?_
  split <;> exact True.intro
theorem dk_noteFrame {e : Value} {env : Env} : DK (noteFrame e env) := by
  unfold noteFrame
  split
  · have rest : ∀ {head : Value} {f : Addr}, DK (do setField e 1 (← EntryCells.newEntry head (← PySem.frameOf env) .none (rawInt f) .none (← entryPlaceOf f (head != .none)))) := fun {head f} =>
      dk_bind dk_frameOf fun a => dk_bind dk_entryPlace fun pl => dk_bind dk_newFields fun b => dk_setField
    refine dk_bind dk_field fun head => ?_
    split
    · refine dk_bind dk_field fun x => ?_
      split
      · exact True.intro
      · exact dk_bind dk_setField fun _ => rest
    · exact rest
  · exact True.intro
theorem dk_leaving {env : Env} {e : Value} : DK (leaving env e) := dk_bind dk_noteFrame fun _ => dk_setFlight
end L2
/-! OWN RULES: exceptions whose class has an __init__ of its own: looked up, made, raised; a field stored on them and read -/
namespace PySem
section
variable {prog : Program} {w : World} {A : Around} {E : Value → Shared → Prop} {h : Heap} {g : Array GenState} {d : Drawn} {t : Nat} {os : OsState}
variable {nm q : Str} {C N : Addr} {bs bm bmB : List Value} {hdct : Bool} {sn : List Str} {sub : List Value} {ab : Bool} {col : Option Bool} {dd : Option Addr} {k0 k1 k2 k3 k5 : Option Value} {B newId initId : String}
/-- C(..) of such a class: the object, then its __init__ -/
theorem type_call_init (F : ExcBaseFacts B newId initId bmB) (T : OwnTail h bmB bm) {rest : List Value} {fI : Addr} {oI : Obj} {Q : Fin → Shared → Prop}
    (hC : h.get? C = some (excClassObj nm q C N bs bm hdct sn sub ab col dd k0 k1 k2 k3 k5 newId)) (L : PySem.W.Looks (model prog w) h (typeLookup (.ref C) "__init__") (some (.ref fI))) (hfI : h.get? fI = some oI) (hfc : oI.cls = .type "function") (hrest : rest.length ≤ sizeLine)
    (hq : ∀ h' e, Heap.MadeExcOf h h' e (.ref C) rest → wpAny (model prog w) A (call (.ref fI) (.ref e :: rest)) (fun r s' => r = .none ∧ Q (.done (.ret (.ref e))) s') E ⟨h', g, d, t, os⟩) :
    wpAny (model prog w) A (Builtin.«type.__call__» ⟨.ref C :: rest, []⟩) Q E ⟨h, g, d, t, os⟩ := by
  repeat (first | with_reducible refine wpAny_loadPart_at hC ?_ | with_reducible refine wpAny_madeBy_exc hC ?_ | wp_step)
  refine codeAny_call_builtin_code (Code.quiet_builtin _ F.quiet) (wpAny_check_new_subT F T hC (codeAny_exc_new_subT F T hC ?_ hrest))
  show wpAny _ _ _ _ _ _
  have hk : ∀ b o, h.get? b = some o → ((h.push { cls := .type "tuple", data := .seq rest.toArray }).push { cls := .ref C, data := .fields #[.ref h.objs.size, .none, .none, .none, .bool false, .none] }).get? b = some o :=
    fun b o e => Heap.get?_push_of_some _ (Heap.get?_push_of_some _ e)
  have hget : ((h.push { cls := .type "tuple", data := .seq rest.toArray }).push { cls := .ref C, data := .fields #[.ref h.objs.size, .none, .none, .none, .bool false, .none] }).get? (h.objs.size + 1) = some
      { cls := .ref C, data := .fields #[.ref h.objs.size, .none, .none, .none, .bool false, .none] } := by heap_get
  have hm : Heap.MadeExcOf h ((h.push { cls := .type "tuple", data := .seq rest.toArray }).push { cls := .ref C, data := .fields #[.ref h.objs.size, .none, .none, .none, .bool false, .none] }) (h.objs.size + 1) (.ref C) rest :=
    ⟨hk, Heap.get?_none_of_le (Nat.le_succ _), h.objs.size, hget, Heap.get?_none_of_le (Nat.le_refl _), Heap.get?_push_of_some _ (Heap.get?_push_at rfl rfl)⟩
  have hq' := hq _ _ hm
  have hC1 := hk _ _ hC
  have hfI1 := hk _ _ hfI
  have hcC : (Value.ref C :: bm).contains (.ref C) = true := by simp
  unfold isInstance
  repeat (first | with_reducible refine wpAny_loadPart_at hget ?_ | (with_reducible refine wpAny_isSubtype_exc hC1 ?_; rw [hcC]) | wp_step)
  show wpAny _ _ (typeLookup (.ref C) _) _ _ _
  refine L _ _ _ _ hk (wpAny_holding (wpAny_bind ?_))
  unfold bindSpecial
  refine wpAny_bind (wpAny_typeOf (T := "function") ⟨_, hfI1, hfc⟩ ?_)
  rw [if_pos (by decide)]
  refine wpAny_pure (wpAny_bind (wpAny_mono hq' (fun r s' hr => ?_) fun _ _ x => x))
  obtain ⟨rfl, hQ⟩ := hr
  wp_walk
  exact hQ
theorem made_init (F : ExcBaseFacts B newId initId bmB) (T : OwnTail h bmB bm) {rest : List Value} {fI : Addr} {oI : Obj} {Q : Value → Shared → Prop}
    (hC : h.get? C = some (excClassObj nm q C N bs bm hdct sn sub ab col dd k0 k1 k2 k3 k5 newId)) (L : PySem.W.Looks (model prog w) h (typeLookup (.ref C) "__init__") (some (.ref fI))) (hfI : h.get? fI = some oI) (hfc : oI.cls = .type "function") (hrest : rest.length ≤ sizeLine)
    (hq : ∀ h' e, Heap.MadeExcOf h h' e (.ref C) rest →
      wpAny (model prog w) (A.under (.builtin "type.__call__" ⟨.ref C :: rest, []⟩)) (call (.ref fI) (.ref e :: rest)) (fun r s' => r = .none ∧ Q (.ref e) s') E ⟨h', g, d, t, os⟩) :
    wpAny (model prog w) A (call (.ref C) rest) Q E ⟨h, g, d, t, os⟩ := by
  have f1 := tc_lookup
  have f2 := tc_bind (.ref C)
  have hT : (⟨h, g, d, t, os⟩ : Shared).TypeIs (.ref C) "type" := ⟨_, hC, rfl⟩
  refine wpAny_call (codeAny_of_tree ?_)
  show wpAny _ _ (callAny (.ref C) _) _ _ _
  repeat (any_goals (first | assumption | with_reducible refine wpAny_loadPart_at hC ?_ | wp_step))
  refine ⟨rfl, ?_⟩
  exact codeAny_call_builtin_at (Code.quiet_builtin _ (by decide +kernel)) entry_typeCall (wpAny_check_type_call_sub hC (type_call_init F T hC L hfI hfc hrest fun h' e hm => hq h' e hm))
/-- raise of what such a call answers -/
theorem raise_made {s : Shared} {env : Env} {x : Sem Value} {Q : Flow → Shared → Prop} (hbase : bm.contains (.type "BaseException") = true) (hh : A.handled = none)
    (hx : wpAny (model prog w) A x (fun v s1 => ∃ e oe t, v = .ref e ∧ s1.heap.get? C = some (excClassObj nm q C N bs bm hdct sn sub ab col dd k0 k1 k2 k3 k5 newId) ∧ s1.heap.get? e = some oe ∧ oe.cls = .ref C ∧ oe.data = .fields #[.ref t, .none, .none, .none, .bool false, .none] ∧ E (.ref e) s1) E s) :
    wpAny (model prog w) A (raiseStmt env (some x) none) Q E s := by
  have hcB : (Value.ref C :: bm).contains (.type "BaseException") = true := by rw [List.contains_cons, hbase, Bool.or_true]
  unfold raiseStmt
  refine wpAny_bind (wpAny_mono hx (fun v s1 q1 => ?_) fun _ _ z => z)
  obtain ⟨e, oe, t, rfl, hC, he, hc, hd, hE⟩ := q1
  obtain ⟨hp, g, dr, tk, os⟩ := s1
  obtain ⟨c0, di, da, sl⟩ := oe
  dsimp only at hc hd
  subst hc hd
  repeat (first | with_reducible refine wpAny_loadPart_at he ?_ | with_reducible refine wpAny_loadPart_at hC ?_ | (with_reducible refine wpAny_isSubtype_exc hC ?_; rw [hcB]) | wp_step)
  exact wpAny_raiseNew_none hh hE
end
end PySem
/-! OWN RULES: the first field stored on an exception of a class over ValueError, and a field read of one -/
namespace PySem
open Builtin Builtin.ObjectAttr
abbrev vMro : List Value := [.type "ValueError", .type "Exception", .type "BaseException", .type "object"]
section
variable {prog : Program} {w : World} {A : Around} {E : Value → Shared → Prop} {h : Heap} {g : Array GenState} {d : Drawn} {t : Nat} {os : OsState}
variable {nm q : Str} {C N x : Addr} {bs bm : List Value} {hdct : Bool} {sn : List Str} {sub : List Value} {ab : Bool} {col : Option Bool} {dd : Option Addr} {k0 k1 k2 k3 k5 : Option Value} {newId : String} {name : Str} {v : Value} {o : Obj}
theorem lk_go {M : Model} {α : Type} {p : Sem α} {r : α} {Q : α → Shared → Prop} (L : PySem.W.Looks M h p r) (hq : Q r ⟨h, g, d, t, os⟩) : wpAny M A p Q E ⟨h, g, d, t, os⟩ := L _ _ _ _ (fun _ _ e => e) hq
theorem refuse_tail {self : Value} (T : OwnTail h vMro bm) : refuseLoop self "__setattr__" bm = pure () := by
  induction T with
  | base => exact F.store_ValueError.passes self
  | own _ _ _ _ ih => rw [refuseLoop_ref]; exact ih
theorem set_first_entry {tk : Tok} {Q : Fin → Shared → Prop} (T : OwnTail h vMro bm) (hC : h.get? C = some (excClassObj nm q C N bs bm true sn sub ab col dd k0 k1 k2 k3 k5 newId)) (Ln : PySem.W.Looks (model prog w) h (typeLookup (.ref C) name) none)
    (hx : h.get? x = some o) (hc : o.cls = .ref C) (hnc : ∀ c, o.data ≠ .cls c) (hdn : o.dict = none)
    (hq : ∀ h' tk' dx, h.get? dx = none → dx ≠ x → h'.get? x = some { o with dict := some dx } → h'.Ns1 dx (fun y => if y = name then some v else none) → (∀ b ob, b ≠ x → h.get? b = some ob → h'.get? b = some ob) → Q (.done (.ret .none)) ⟨h', g, d, tk', os⟩) :
    wpAny (model prog w) A (Builtin.«object.__setattr__» ⟨[.ref x, .str name tk, v], []⟩) Q E ⟨h, g, d, t, os⟩ := by
  have hpass := refuse_tail (self := .ref x) T
  unfold Builtin.«object.__setattr__»
  repeat (first | rw [refuse_eq] | (rw [refuseLoop_ref, hpass]) | (with_reducible refine wpAny_loadPart_at hx ?_; rw [hc]) | with_reducible refine wpAny_mroOf_exc hC ?_ | with_reducible refine lk_go Ln ?_ | wp_step)
  rw [hdn, if_neg (by simp [typeHasDict])]
  split
  · rename_i hcd
    cases hcd
  split
  · rename_i c hcd
    exact absurd hcd (hnc c)
  have hx1 : (h.push { cls := .type "dict", data := .dict #[] }).get? x = some o := Heap.get?_push_of_some _ hx
  have hxs : x ≠ h.objs.size := Nat.ne_of_lt (Heap.lt_size hx)
  refine wpAny_bind (wpAny_alloc' (wpAny_bind (wpAny_update' hx1 (wpAny_pure ?_))))
  have hgd : ((h.push { cls := .type "dict", data := .dict #[] }).update x fun o => { cls := o.cls, dict := some h.objs.size, data := o.data, slots := o.slots }).get? h.objs.size = some { cls := .type "dict", data := .dict #[] } :=
    (Heap.get?_update_ne _ _ _ _ hxs.symm).trans (Heap.get?_push_at rfl rfl)
  show wpAny _ _ (storeInDict h.objs.size (.str name tk) name v) _ _ _
  unfold storeInDict newKeyGuard
  refine wpAny_bind (wpAny_pure (wpAny_bind (wpAny_nsSet1 (Heap.Ns1.of_empty ⟨_, #[], _, hgd, rfl, fun e he => absurd he (by simp), fun _ => rfl⟩) fun h' hn' hs => ?_)))
  obtain ⟨oD, esD, epD, hoD, hdD, hcD⟩ := hn'.count (Within.cons name v Within.nil)
  refine wpAny_bind (wpAny_lookBehind hoD (by rw [hdD]; exact pastItsLine_dict (Nat.le_trans hcD (by rw [List.length_cons, List.length_nil, sizeLine_eq]; omega))) ?_)
  wp_walk
  refine hq h' _ h.objs.size (Heap.get?_none_of_le (Nat.le_refl _)) hxs.symm ?_ hn' fun b ob hbx hb => (hs.2 b (Nat.ne_of_lt (Heap.lt_size hb))).trans ((Heap.get?_update_ne _ _ _ _ hbx).trans (Heap.get?_push_of_some _ hb))
  refine (hs.2 x hxs).trans (Heap.get?_update_self _ hx1 ?_)
  have hfr := (Heap.get?_some_iff.mp hx).2
  obtain ⟨oc, od, odt, osl⟩ := o
  cases odt <;> first | rfl | exact hfr
theorem check_set {M : Model} {nameV : Value} {Q : Unit → Shared → Prop} (T : OwnTail h vMro bm) (hC : h.get? C = some (excClassObj nm q C N bs bm hdct sn sub ab col dd k0 k1 k2 k3 k5 newId)) (hx : h.get? x = some o) (hc : o.cls = .ref C) (hq : Q () ⟨h, g, d, t, os⟩) :
    wpAny M A (checkBuiltinCall "object.__setattr__" ⟨[.ref x, nameV, v], []⟩) Q E ⟨h, g, d, t, os⟩ := by
  have hcB : (Value.ref C :: bm).contains (.type "object") = true := by rw [List.contains_cons, T.hasType F.store_ValueError.hasOwner, Bool.or_true]
  have ha := F.store_ValueError.args (.ref x) nameV v
  simp only [checkBuiltinCall, F.store_ValueError.kind, F.store_ValueError.split]
  refine wpAny_bind ?_
  unfold isInstance
  repeat (first | (with_reducible refine wpAny_loadPart_at hx ?_; rw [hc]) | (with_reducible refine wpAny_isSubtype_exc hC ?_; rw [hcB]) | wp_step)
  exact hq
/-- x.name = v, x an exception that has no dict yet -/
theorem set_first {Q : Unit → Shared → Prop} (T : OwnTail h vMro bm) (hC : h.get? C = some (excClassObj nm q C N bs bm true sn sub ab col dd k0 k1 k2 k3 k5 newId)) (Ls : PySem.W.Looks (model prog w) h (typeLookup (.ref C) "__setattr__") (some (.builtin "object.__setattr__"))) (Ln : PySem.W.Looks (model prog w) h (typeLookup (.ref C) name) none)
    (hx : h.get? x = some o) (hc : o.cls = .ref C) (hnc : ∀ c, o.data ≠ .cls c) (hdn : o.dict = none)
    (hq : ∀ h' tk' dx, h.get? dx = none → dx ≠ x → h'.get? x = some { o with dict := some dx } → h'.Ns1 dx (fun y => if y = name then some v else none) → (∀ b ob, b ≠ x → h.get? b = some ob → h'.get? b = some ob) → Q () ⟨h', g, d, tk', os⟩) :
    wpAny (model prog w) A (setAttr (.ref x) name v) Q E ⟨h, g, d, t, os⟩ := by
  have f3 := F.store_ValueError.slot.bind (.ref x)
  unfold setAttr callSpecial? specialOf
  repeat (any_goals (first | assumption | (with_reducible refine wpAny_loadPart_at hx ?_; rw [hc]) | with_reducible refine lk_go Ls ?_ | wp_step))
  refine codeAny_call_builtin F.store_ValueError.slot.plain F.store_ValueError.entry (check_set T hC hx hc (set_first_entry T hC Ln hx hc hnc hdn fun h' tk' dx a1 a2 a3 a4 a5 => ?_))
  repeat (any_goals (first | assumption | wp_step))
  exact hq h' tk' dx a1 a2 a3 a4 a5
theorem check_get {M : Model} {nameV : Value} {Q : Unit → Shared → Prop} (T : OwnTail h vMro bm) (hC : h.get? C = some (excClassObj nm q C N bs bm hdct sn sub ab col dd k0 k1 k2 k3 k5 newId)) (hx : h.get? x = some o) (hc : o.cls = .ref C) (hq : Q () ⟨h, g, d, t, os⟩) :
    wpAny M A (checkBuiltinCall "BaseException.__getattribute__" ⟨[.ref x, nameV], []⟩) Q E ⟨h, g, d, t, os⟩ := by
  have hk : builtinKind "BaseException.__getattribute__" = some .slot := by decide +kernel
  have hsplit : splitId "BaseException.__getattribute__" = some ("BaseException", "__getattribute__") := by decide +kernel
  have hcB : (Value.ref C :: bm).contains (.type "BaseException") = true := by rw [List.contains_cons, T.hasType F.attrBase_ValueError.hasBase]; rfl
  have ha := F.args_bexc_ga (.ref x) nameV
  simp only [checkBuiltinCall, hk, hsplit]
  refine wpAny_bind ?_
  unfold isInstance
  repeat (first | (with_reducible refine wpAny_loadPart_at hx ?_; rw [hc]) | (with_reducible refine wpAny_isSubtype_exc hC ?_; rw [hcB]) | wp_step)
  exact hq
theorem get_entry {tk : Tok} {dx : Addr} {mA : Str → Option Value} {Q : Fin → Shared → Prop} (hC : h.get? C = some (excClassObj nm q C N bs bm true sn sub ab col dd k0 k1 k2 k3 k5 newId)) (Ln : PySem.W.Looks (model prog w) h (typeLookup (.ref C) name) none)
    (hx : h.get? x = some o) (hc : o.cls = .ref C) (hnc : ∀ c, o.data ≠ .cls c) (hdx : o.dict = some dx) (hns : h.Ns1 dx mA) (hv : mA name = some v) (hq : Q (.done (.ret v)) ⟨h, g, d, t, os⟩) :
    wpAny (model prog w) A (Builtin.«object.__getattribute__» ⟨[.ref x, .str name tk], []⟩) Q E ⟨h, g, d, t, os⟩ := by
  unfold Builtin.«object.__getattribute__»
  repeat (first | (with_reducible refine wpAny_loadPart_at hx ?_; rw [hc]) | with_reducible refine lk_go Ln ?_ | wp_step)
  split
  · rename_i c hcd
    exact absurd hcd (hnc c)
  unfold instanceDict
  repeat (first | (with_reducible refine wpAny_loadPart_at hx ?_; rw [hc]) | with_reducible refine wpAny_loadPart_at hC ?_ | wp_step)
  rw [hdx]
  repeat (first | (with_reducible refine wpAny_nsGet hns.ns ?_; rw [hv]) | wp_step)
  exact hq
/-- x.name, x an exception with a dict -/
theorem get_own {expr : Bool} {dx : Addr} {mA : Str → Option Value} {Q : Value → Shared → Prop} (T : OwnTail h vMro bm) (hC : h.get? C = some (excClassObj nm q C N bs bm true sn sub ab col dd k0 k1 k2 k3 k5 newId))
    (Lg : PySem.W.Looks (model prog w) h (typeLookup (.ref C) "__getattribute__") (some (.builtin "BaseException.__getattribute__"))) (La : PySem.W.Looks (model prog w) h (typeLookup (.ref C) "__getattr__") none) (Ln : PySem.W.Looks (model prog w) h (typeLookup (.ref C) name) none)
    (hx : h.get? x = some o) (hc : o.cls = .ref C) (hnc : ∀ c, o.data ≠ .cls c) (hdx : o.dict = some dx) (hns : h.Ns1 dx mA) (hv : mA name = some v) (hh : handedOut v = pure v) (hq : Q v ⟨h, g, d, t + 1, os⟩) :
    wpAny (model prog w) A (getAttr (.ref x) name expr) Q E ⟨h, g, d, t, os⟩ := by
  have f3 := F.attrBase_ValueError.ga.bind (.ref x)
  have hx0 : (expr && onTheHeap (Value.builtin "BaseException.__getattribute__")) = false := by cases expr <;> rfl
  have hx2 : (Value.builtin "BaseException.__getattribute__" == Value.builtin "object.__getattribute__") = false := by decide +kernel
  have hx1 : (onTheHeap (Value.ref C) && Value.builtin "BaseException.__getattribute__" == Value.builtin "object.__getattribute__") = false := by rw [hx2]; rfl
  unfold getAttr
  repeat (any_goals (first | assumption | (with_reducible refine wpAny_loadPart_at hx ?_; rw [hc]) | with_reducible refine lk_go Lg ?_ | with_reducible refine lk_go La ?_ | wp_step))
  refine codeAny_call_builtin F.attrBase_ValueError.ga.plain F.entry_bexc_ga (check_get T hC hx hc (get_entry hC Ln hx hc hnc hdx hns hv ?_))
  repeat (any_goals (first | assumption | wp_step))
end
end PySem
/-! OWN RULES: exceptions with a dict of their own: raised, passed on, left -/
namespace L2
open PySem PySem.Spec PyProof.Rows
/-- by the code: an own exception class over ValueError, whatever its __init__ -/
def initIn (K : PySem.W.Frag) (C f : Addr) : Bool := (match K.lookup f with
  | some o => o.cls == .type "function"
  | none => false) && match K.lookup C with
  | some ⟨.type "type", _, .cls cd, sl⟩ => (match cd.mro, sl.toList with
    | .ref C' :: bm, [_, _, _, _, some (.builtin n), _] => C' == C && n == "ValueError.__new__" && !cd.hasDel && cd.hasDict && PySem.W.tailIn K vErr bm
    | _, _ => false)
  | _ => false
theorem init_obj {K : PySem.W.Frag} {h : Heap} {C f : Addr} (X : K.In h) (q : initIn K C f = true) :
    (∃ oI, h.get? f = some oI ∧ oI.cls = .type "function") ∧ ∃ bm N nm qn bs sn sub ab col dd k0 k1 k2 k3 k5, h.get? C = some (excClassObj nm qn C N bs bm true sn sub ab col dd k0 k1 k2 k3 k5 "ValueError.__new__") ∧ OwnTail h vErr bm := by
  unfold initIn at q
  rw [Bool.and_eq_true] at q
  obtain ⟨q0, q⟩ := q
  refine ⟨?_, ?_⟩
  · split at q0
    · rename_i o ho
      exact ⟨o, X _ _ ho, beq_iff_eq.mp q0⟩
    · cases q0
  split at q
  · rename_i dd cd sl ho
    split at q
    · rename_i C' bm k0 k1 k2 k3 n k5 hm hs
      simp only [Bool.and_eq_true, beq_iff_eq, Bool.not_eq_true'] at q
      obtain ⟨⟨⟨⟨rfl, rfl⟩, hdel⟩, hdc⟩, ht⟩ := q
      obtain ⟨nm, bs, mro, ns, qn, hd, sn, sub, ab, col, del⟩ := cd
      dsimp only at hm hdel hdc
      subst hm hdel hdc
      have hsl : sl = #[k0, k1, k2, k3, some (.builtin "ValueError.__new__"), k5] := by
        obtain ⟨l⟩ := sl
        simp only at hs
        rw [hs]
      subst hsl
      exact ⟨bm, ns, nm, qn, bs, sn, sub, ab, col, dd, k0, k1, k2, k3, k5, X _ _ ho, PySem.W.tail_of_in X ht⟩
    · cases q
  · cases q
/-- such a class with an __init__ of its own, the def at f; x: a field of its exceptions -/
structure XInit (K : PySem.W.Frag) (C f : Addr) (x : Str) : Prop where
  cls : initIn K C f = true
  ini : PySem.W.findIn K (.ref C) "__init__" = some (some (.ref f))
  sa : PySem.W.findIn K (.ref C) "__setattr__" = some (some (.builtin "object.__setattr__"))
  ga : PySem.W.findIn K (.ref C) "__getattribute__" = some (some (.builtin "BaseException.__getattribute__"))
  gn : PySem.W.findIn K (.ref C) "__getattr__" = some none
  no : PySem.W.findIn K (.ref C) x = some none
/-- an exception as it was made, without a dict; with one -/
def IsExc0 (ea C : Addr) : HO := .ext fun h => ∃ t sl, h.get? ea = some ⟨.ref C, none, .fields #[.ref t, .none, .none, .none, .bool false, .none], sl⟩
def IsExc1 (ea C d : Addr) : HO := .ext fun h => ∃ t sl, h.get? ea = some ⟨.ref C, some d, .fields #[.ref t, .none, .none, .none, .bool false, .none], sl⟩
section
variable {X : Cx} {pins : List (Addr × Obj)} {σ : St} {H : Hp} {s : Shared}
theorem Inv.old0 (I : Inv X pins σ H s) (hex : X.ex = []) {b : Addr} (e : s.heap.get? b = none) : X.s₀.heap.get? b = none := by
  cases q : X.s₀.heap.get? b with
  | none => rfl
  | some o =>
    have base := I.base
    rw [hex] at base
    obtain ⟨o1, e1⟩ := base.there b o q (by simp)
    rw [e] at e1
    cases e1
/-- x.f = value, x an exception without a dict -/
def sXSet (C : Addr) (ta tv : TE) (f : Str) : TS := fun D σ H => tv σ H fun y H1 => ta σ H1 fun x H2 => ∃ a, x = .ref a ∧ H2 a = some (IsExc0 a C) ∧ ∀ d, H2 d = none → D.nx σ (upd (upd H2 a (IsExc1 a C d)) d (.xd [(f, y)]))
theorem ps_xset {C fi : Addr} {o value : Expr} {f : Str} {pos pos' : Pos} {ta tv : TE} (hI : XInit X.K C fi f) (hex : X.ex = []) (ha : PE X o ta) (hv : PE X value tv) (hs : swapsWith value (some (.Attribute o f pos')) pos.line X.env = pure false) :
    PS X (.Assign [.Attribute o f pos'] value pos) (sXSet C ta tv f) := by
  intro pins s σ H D I h
  refine plainObj_wpAny_Assign_Attribute (thn (hv pins s σ H _ I h) fun u s1 ⟨y, H1, I1, ry, q⟩ => thn (ha pins s1 σ H1 _ I1 q) fun ov s2 ⟨x, H2, I2, rx, a, ex, ea, q2⟩ => ?_) hs
  subst ex
  obtain rfl : ov = Value.ref a := rx
  obtain ⟨⟨t, sl, hx⟩, _, _⟩ := I2.hok a _ ea
  obtain ⟨_, bm, N, nm, qn, bs, sn, sub, ab, col, dd, k0, k1, k2, k3, k5, hC, T⟩ := init_obj I2.kIn hI.cls
  obtain ⟨hp, g, dr, tk, os⟩ := s2
  refine set_first T hC (PySem.W.looks_findIn I2.kIn hI.sa) (PySem.W.looks_findIn I2.kIn hI.no) hx rfl (fun c z => by cases z) rfl fun h' tk' d n1 n2 e1 e2 kp => ?_
  have hd0 : H2 d = none := by
    cases z : H2 d with
    | none => rfl
    | some u =>
      obtain ⟨o', e'⟩ := (I2.hok d u z).there
      rw [show hp.get? d = none from n1] at e'
      cases e'
  have I3 : Inv X pins σ (upd H2 a (IsExc1 a C d)) ⟨h', g, dr, tk', os⟩ := by
    refine I2.write (x := a) (e := a) (h' := h') (t' := tk') (by rw [ea]; exact True.intro) (.inl rfl) (fun b u hb e => kp b u hb e) ⟨_, e1⟩ ⟨⟨t, sl, e1⟩, ⟨_, e1⟩, fun h1 h2 p k => ?_⟩
    obtain ⟨t', sl', e'⟩ := p
    exact ⟨t', sl', k _ e'⟩
  have hd1 : hp.get? d = none := n1
  have ne0 : ∀ b o, hp.get? b = some o → b ≠ d := fun b o e z => by rw [z, hd1] at e; cases e
  have I4 : Inv X pins σ (upd (upd H2 a (IsExc1 a C d)) d (.xd [(f, y)])) ⟨h', g, dr, tk', os⟩ := by
    refine I3.track hex (by rw [upd_ne n2]; exact hd0) (I2.old0 hex hd1) ?_ (fun z c e => ?_) (fun p hp' => ?_) ⟨_, e2, fun z => ?_⟩
    · obtain ⟨m, ⟨o', _, _, ho', _⟩, _⟩ := I2.loc
      exact (ne0 _ _ ho').symm
    · obtain ⟨v', o', ho', _⟩ := I2.cell z c e
      exact ne0 _ _ ho'
    · exact ne0 _ _ (I2.pin p hp').1
    · rw [List.lookup_cons]
      by_cases hz : z = f
      · subst hz
        simp only [beq_self_eq_true, if_true]
        exact ry
      · have : (z == f) = false := by simpa using hz
        rw [this, if_neg hz]
        exact True.intro
  exact ⟨σ, _, I4, q2 d hd0⟩
/-- what is tracked and nobody's is tracked no longer -/
theorem Inv.drop {a : Addr} {φ : Heap → Prop} (I : Inv X pins σ H s) (ha : H a = some (.ext φ)) : Inv X pins σ (fun b => if b = a then none else H b) s := by
  have ne : ∀ {b : Addr} {u : HO}, H b = some u → (∀ ψ, u ≠ .ext ψ) → b ≠ a := fun {b u} e h z => by
    subst z
    rw [ha] at e
    exact h _ (Option.some.inj e).symm
  have at_ : ∀ {b : Addr}, b ≠ a → (fun b => if b = a then none else H b) b = H b := fun h => if_neg h
  have nn : ∀ {b : Addr}, H b = none → (fun b => if b = a then none else H b) b = none := fun {b} h => by
    by_cases z : b = a
    · exact if_pos z
    · exact (if_neg z).trans h
  refine ⟨I.ok, I.os, I.bare, ⟨I.base.keep, I.base.slot, fun b ob e n hx => nn (I.base.free b ob e n hx), I.base.there, fun b xs q => ?_, fun b ob v q => ?_, fun b ps q => ?_⟩, I.loc, I.cell, nn I.free, fun x c e => nn (I.freeC x c e), fun p hp => ?_, fun b v e => ?_, I.len⟩
  · have q' := I.base.tups b xs q
    exact (at_ (ne q' fun _ z => nomatch z)).trans q'
  · have q' := I.base.frzs b ob v q
    exact (at_ (ne q' fun _ z => nomatch z)).trans q'
  · obtain ⟨more, z⟩ := I.base.tbls b ps q
    exact ⟨more, (at_ (ne z fun _ z => nomatch z)).trans z⟩
  · obtain ⟨q1, q2, q3⟩ := I.pin p hp
    exact ⟨q1, nn q2, q3⟩
  · by_cases z : b = a
    · have e' : (if b = a then none else H b) = some v := e
      rw [if_pos z] at e'
      cases e'
    · have e' : H b = some v := (at_ z).symm.trans e
      exact (I.hok b v e').stay (fun _ _ _ q => q) (fun c q => (at_ (ne q fun _ z => nomatch z)).trans q) fun c xs q => (at_ (ne q fun _ z => nomatch z)).trans q
end
/-- how an exception lies behind a call: with its dict's place -/
def CX2 (P : Program) (w : World) : CXT := fun l H s E e s' => ∃ ea cls dd H', e = .ref ea ∧ Fly P w l H H' s s' ea cls ∧ (∃ oe, s'.heap.get? ea = some oe ∧ oe.dict = dd) ∧ E cls dd H'
theorem pass2_0 {P : Program} {w : World} {X : Cx} : Passes (CX2 P w) X E0 := fun _ _ _ _ _ _ _ ⟨_, _, _, _, _, _, _, z⟩ => z.elim
section
variable {P : Program} {w : World} {K : PySem.W.Frag} {mg : Str → Option Value} {base : Heap} {N : List Str} {qual : Str} {scope : Scope} {f : Addr} {cd : Value} {A : Around} {outer : List Env} {s : Shared} {H : Hp} {E : XK}
/-- an exception that is there, as it was made, leaves -/
theorem raise2 {pins : List (Addr × Obj)} {σ : St} {H1 : Hp} {s1 : Shared} {ea t : Addr} {oe : Obj} (I : Inv (cxOf (CX2 P w) P w K mg base N qual scope f cd A outer s H E) pins σ H1 s1) (he : s1.heap.get? ea = some oe)
    (hd : oe.data = .fields #[.ref t, .none, .none, .none, .bool false, .none]) (new : s.heap.get? ea = none) (hn : H1 ea = none) (q : E oe.cls oe.dict H1) : (cxOf (CX2 P w) P w K mg base N qual scope f cd A outer s H E).xe (.ref ea) s1 := by
  have noE : ∀ b : Addr, b ∉ ([] : List Addr) := fun b => by simp
  have ib : Un (frs outer) [] H H1 s.heap s1.heap := I.base
  obtain ⟨stk, estk⟩ : ∃ stk, stk = envOfC qual scope s.heap.objs.size f cd :: outer := ⟨_, rfl⟩
  have hin : ∀ env ∈ stk, ∀ b, env.frame = some b → b ∈ ea :: frs stk := fun env he b hb => List.mem_cons_of_mem _ (List.mem_filterMap.mpr ⟨env, he, hb⟩)
  have hideg : ∀ b o, s1.heap.get? b = some o → b ≠ ea → b ∉ frs stk → (PySem.W.hideAll s1.heap (ea :: frs stk)).get? b = some o := fun b o e h1 h2 => PySem.W.hideAll_get _ e fun z => (List.mem_cons.mp z).elim h1 h2
  have stkNe : ∀ b o, s.heap.get? b = some o → b ∉ frs outer → b ∉ frs stk := fun b o e hb => by rw [estk]; exact I.stkNe e hb
  have neS : ∀ b o, s.heap.get? b = some o → b ≠ ea := fun b o e z => by rw [z, new] at e; cases e
  have neH : ∀ b u, H1 b = some u → b ≠ ea := fun b u e z => by rw [z, hn] at e; cases e
  have trk : ∀ b u, H1 b = some u → b ∉ frs stk := fun b u e z => by
    rw [estk] at z
    have := I.stkFree b z
    rw [e] at this
    cases this
  have IS : s1.heap.FunFrames (PySem.W.hideAll s1.heap (ea :: frs stk)) (envOfC qual scope s.heap.objs.size f cd :: outer) := by
    rw [estk]
    exact PySem.W.funFrames_hide I.stack (by rw [estk] at hin; exact hin)
  show wpAny (model P w) (A.deeper (envOfC qual scope s.heap.objs.size f cd)) (leaving (envOfC qual scope s.heap.objs.size f cd) (.ref ea)) _ _ s1
  refine wpAny_mono (wpAny_dk dk_leaving (wpAny_leaving_firstW (E := fun _ _ => False) (base := PySem.W.hideAll s1.heap (ea :: frs stk)) (a0 := .ref t) (Q := fun _ s'' => ∃ h', s'' = { s1 with heap := h' } ∧ Heap.LeftW (PySem.W.hideAll s1.heap (ea :: frs stk)) (envOfC qual scope s.heap.objs.size f cd :: outer) ea oe.cls (.ref t) s1.heap h')
    I.ok.frames IS rfl he (fun b o q => PySem.W.of_hideAll _ q) (PySem.W.hideAll_none _ (by simp)) hd rfl rfl fun h' hL => ⟨h', rfl, hL⟩)) (fun _ s'' ⟨⟨h', e1, hL⟩, kd⟩ => ?_) (fun _ _ c => c.1.elim)
  subst e1
  obtain ⟨o2, e2, d2⟩ := kd ea oe he
  obtain ⟨x1, ⟨_, _, x2⟩, x3, x4⟩ := hL
  have stay : ∀ b o, s1.heap.get? b = some o → b ≠ ea → b ∉ frs stk → h'.get? b = some o := fun b o e h1 h2 => x1 _ _ (hideg b o e h1 h2)
  have slots : ∀ b o, s.heap.get? b = some o → H b = none → b ∈ frs outer → ∃ sl, h'.get? b = some { o with slots := sl } := fun b o e n hb => by
    obtain ⟨sl, e1⟩ := ib.slot b o e n hb (noE b)
    obtain ⟨_, o3, e3, nf⟩ := I.ok.funs.mem hb
    have e3' : s.heap.get? b = some o3 := e3
    rw [e] at e3'
    cases e3'
    obtain ⟨sl3, e4⟩ := x4 b _ e1 nf
    exact ⟨sl3, e4⟩
  refine ⟨ea, oe.cls, oe.dict, H1, rfl, ⟨I.os, I.bare, ⟨fun b o e n hb _ => ?_, fun b o e n hb _ => slots b o e n hb, fun b o e n _ => ib.free b o e n (noE b), fun b o e _ => ?_, ib.tups, ib.frzs, ib.tbls⟩, fun b u e => ?_, ⟨PySem.W.hideAll s1.heap (ea :: frs stk), t, ⟨x1, PySem.W.hideAll_none _ (by simp), x2, x3⟩, fun b o o' e e' hb => ?_, fun b u o' q e' => ?_⟩, new⟩, ⟨o2, e2, d2⟩, q⟩
  · exact stay b o (ib.keep b o e n hb (noE b)) (neS b o e) (stkNe b o e hb)
  · by_cases hb : b ∈ frs outer
    · obtain ⟨sl, q⟩ := slots b o e (I.ok.frf b hb) hb
      exact ⟨_, q⟩
    · obtain ⟨o1, e1⟩ := ib.there b o e (noE b)
      exact ⟨o1, stay b o1 e1 (neS b o e) (stkNe b o e hb)⟩
  · refine (I.hok b u e).stay (fun c v hc q => ?_) (fun _ q => q) fun _ _ q => q
    rcases hc with z | z
    · subst z
      exact stay _ _ q (neH _ _ e) (trk _ _ e)
    · exact stay _ _ q (neH _ _ z) (trk _ _ z)
  · obtain ⟨o1, e1⟩ := ib.there b o e (noE b)
    have z := stay b o1 e1 (neS b o e) (stkNe b o e hb)
    have e2 : h'.get? b = some o' := e'
    rw [z] at e2
    cases e2
    exact hideg b _ e1 (neS b o e) (stkNe b o e hb)
  · obtain ⟨o1, e1⟩ := (I.hok b u q).there
    have z := stay b o1 e1 (neH _ _ q) (trk _ _ q)
    have e2 : h'.get? b = some o' := e'
    rw [z] at e2
    cases e2
    exact hideg b _ e1 (neH _ _ q) (trk _ _ q)
end
end L2
/-! OWN RULES: raise C(..) where C has an __init__ of its own; defs from which such exceptions leave; try with two handlers; a field of a caught exception -/
namespace L2
open PySem PySem.Spec PyProof.Rows
section
variable {P : Program} {w : World} {K : PySem.W.Frag} {mg : Str → Option Value} {base : Heap}
/-- THE RULE for a def from which such exceptions may leave -/
theorem Fun.okY {x qual : Str} {st : Stmt} {f : Addr} {fd : FuncData} {N ps : List Str} {k : Nat} {sp : Sp} (F : Fun K x qual st f fd) (S : FnScope N ps (defScope st)) (len : ∀ vs H Q E, sp vs H Q E → vs.length = ps.length)
    (hbody : ∀ (cdv : Value) (A : Around) (outer : List Env) (s : Shared) (H : Hp) (vs : List V) (Q : VK) (E : XK), Room k (A.deeper (envOfC qual (defScope st) s.heap.objs.size f cdv)) → sp vs H Q E →
      ∃ t, PSs (cxOf (CX2 P w) P w K mg base N qual (defScope st) f cdv A outer s H E) (defBody st) t ∧ t { nx := fun _ H' => Q .non H', rt := Q } (start N vs) H) : FnOk P w K mg base (CX2 P w) (k + 1) f fd ps sp := by
  obtain ⟨oc, od, kV, doc, pm, an, cdv, ct, osl, rfl, lk, hcd⟩ := F.ex
  exact fn_of lk hcd S len fun A outer s H vs Q E hr hsp => hbody cdv A outer s H vs Q E hr hsp
theorem Inv.fresh' {X : Cx} {pins : List (Addr × Obj)} {σ : St} {H : Hp} {s : Shared} (I : Inv X pins σ H s) {a : Addr} (e : s.heap.get? a = none) : H a = none := by
  cases z : H a with
  | none => rfl
  | some u =>
    obtain ⟨o, q⟩ := (I.hok a u z).there
    rw [e] at q
    cases q
/-- raise C(..), C without an __init__ of its own, in such a def -/
theorem ps_raise2 {N : List Str} {qual : Str} {scope : Scope} {f : Addr} {cd : Value} {A : Around} {outer : List Env} {s : Shared} {H : Hp} {E : XK} {x : Str} {C : Addr} {e : Expr} {es : List Expr} {t : TA} {np cpos pos : Pos}
    (hg : Gl (cxOf (CX2 P w) P w K mg base N qual scope f cd A outer s H E) x) (hm : mg x = some (.ref C)) (hC : XCls K C) (ha : PA (cxOf (CX2 P w) P w K mg base N qual scope f cd A outer s H E) (e :: es) t)
    (hdb : (x == ("__debug__" : Str)) = false := by decide) (he : starEach (e :: es) (envOfC qual scope s.heap.objs.size f cd) = (false, eval e (envOfC qual scope s.heap.objs.size f cd)) :: starEach es (envOfC qual scope s.heap.objs.size f cd) := by rfl)
    (hpl : (backTo cpos (starEach es (envOfC qual scope s.heap.objs.size f cd))).any (·.1) = false := by rfl) :
    PS (cxOf (CX2 P w) P w K mg base N qual scope f cd A outer s H E) (.Raise (some (.Call (.Name x np) (e :: es) [] cpos)) none pos) (tRaise (E (.ref C) none) t) :=
  ps_raise rfl hg hm hC ha (fun {pins σ H1 s1 ea vs h1} I hx q => by
    obtain ⟨t, h2, _, _⟩ := hx.there
    exact raise2 (I.kept (t' := s1.toks) hx.keeps) h2 rfl (I.old0 rfl hx.new) (I.fresh' hx.new) q) hdb he hpl
end
/-- raise C(..), C with an __init__ of its own: sp is what that def promises -/
def tRaiseI (C : Addr) (sp : Sp) (W : Option Addr → Hp → Prop) (t : TA) : TS := fun _ σ H => t σ H fun vs H1 => vs.length ≤ sizeLine ∧
  ∀ ea, H1 ea = none → sp (.ref ea :: vs) (upd H1 ea (IsExc0 ea C)) (fun v H2 => v = .non ∧ ∃ d, H2 ea = some (IsExc1 ea C d) ∧ W (some d) (fun b => if b = ea then none else H2 b)) E0
section
variable {X : Cx}
theorem ps_raiseI {k : Nat} {fI C : Addr} {fd : FuncData} {ps : List Str} {sp : Sp} {fld x : Str} {e : Expr} {es : List Expr} {t : TA} {np cpos pos : Pos} {W : Option Addr → Hp → Prop} (hc : X.calm = true) (hex : X.ex = []) (hg : Gl X x) (hm : X.mg x = some (.ref C))
    (hI : XInit X.K C fI fld) (Fn : FnOk X.prog X.w X.K X.mg X.base CX0 k fI fd ps sp) (hr : Room (k + 1) X.A) (hb : Binds X.K fd ps []) (ha : PA X (e :: es) t)
    (hxe : ∀ {pins : List (Addr × Obj)} {σ : St} {H : Hp} {s : Shared} {ea t : Addr} {oe : Obj}, Inv X pins σ H s → s.heap.get? ea = some oe → oe.data = .fields #[.ref t, .none, .none, .none, .bool false, .none] → X.s₀.heap.get? ea = none → H ea = none → oe.cls = .ref C → W oe.dict H → X.xe (.ref ea) s)
    (hdb : (x == ("__debug__" : Str)) = false := by decide) (he : starEach (e :: es) X.env = (false, eval e X.env) :: starEach es X.env := by rfl) (hpl : (backTo cpos (starEach es X.env)).any (·.1) = false := by rfl) :
    PS X (.Raise (some (.Call (.Name x np) (e :: es) [] cpos)) none pos) (tRaiseI C sp W t) := by
  intro pins s σ H D I h
  have FB := F.excBase_ValueError
  obtain ⟨_, bm, N, nm, qn, bs, sn, sub, ab, col, dd, k0, k1, k2, k3, k5, hC0, T0⟩ := init_obj I.mod.kin hI.cls
  have hpl' : ((backTo cpos (starEach (e :: es) X.env)).any fun x => x.fst) = false := by rw [he]; show (false || (backTo cpos (starEach es X.env)).any (·.1)) = false; rw [hpl]; rfl
  rw [arm_exec_Raise]
  refine wpAny_bind (wpAny_standAt ?_)
  refine raise_made (C := C) (nm := nm) (q := qn) (N := N) (bs := bs) (bm := bm) (hdct := true) (sn := sn) (sub := sub) (ab := ab) (col := col) (dd := dd) (k0 := k0) (k1 := k1) (k2 := k2) (k3 := k3) (k5 := k5) (newId := "ValueError.__new__")
    (T0.hasType FB.hasBase) (I.ok.hd hc) (wpAny_bind (wpAny_mono (wpAny_Call_ofName (ld_glob I hg hm ?_ hdb)) (fun v s3 h3 => wpAny_bind (wpAny_standAt (wpAny_pure h3))) fun _ _ x => x))
  have h1 : wpAny (model X.prog X.w) X.A (evalArgs (.ref C) true (backTo cpos (starEach (e :: es) X.env)) []) (fun a s2 => ∃ us vs H2, a = ⟨us, []⟩ ∧ Inv X pins σ H2 s2 ∧ Vals vs us ∧ vs.length ≤ sizeLine ∧
      ∀ ea, H2 ea = none → sp (.ref ea :: vs) (upd H2 ea (IsExc0 ea C)) (fun v H3 => v = .non ∧ ∃ d, H3 ea = some (IsExc1 ea C d) ∧ W (some d) (fun b => if b = ea then none else H3 b)) E0) X.xe s := by
    have hA := ha cpos pins s σ H _ I h
    rw [he] at hA ⊢
    exact Calls.evalArgs_plain (thn hA fun us s2 ⟨vs, H2, I2, r2, hz, q2⟩ => ⟨us, vs, H2, rfl, I2, r2, hz, q2⟩)
  unfold callWith
  refine wpAny_bind (wpAny_holding (wpAny_mono h1 (fun a s2 h2 => wpAny_bind (wpAny_standAt ?_)) fun _ _ x => x))
  obtain ⟨us, vs, H2, rfl, I2, r2, hz, q2⟩ := h2
  have hC := I2.bk _ _ hC0
  have T := T0.keeps I2.bk
  obtain ⟨⟨oI, hoI, hoc⟩, _⟩ := init_obj I2.kIn hI.cls
  obtain ⟨hp, g, dr, tk, os⟩ := s2
  simp only [hpl']
  refine wpAny_bind (wpAny_keeperOf_exc hC ?_)
  refine wpAny_bind (made_init FB T hC (PySem.W.looks_findIn I2.kIn hI.ini) hoI hoc (by show us.length ≤ sizeLine; rw [← r2.length]; exact hz) fun h' ea hmd => ?_)
  have hna : hp.get? ea = none := hmd.new
  have ne0 : ∀ b o, hp.get? b = some o → b ≠ ea := fun b o e z => by rw [z, hna] at e; cases e
  obtain ⟨t0, het, _, _⟩ := hmd.there
  have I3 : Inv X pins σ H2 ⟨h', g, dr, tk, os⟩ := I2.kept (t' := tk) hmd.keeps
  have hH2 : H2 ea = none := I2.fresh' hna
  have I4 : Inv X pins σ (upd H2 ea (IsExc0 ea C)) ⟨h', g, dr, tk, os⟩ := by
    refine I3.track hex hH2 (I2.old0 hex hna) ?_ (fun z c e => ?_) (fun p hp' => ?_) ⟨⟨t0, _, het⟩, ⟨_, het⟩, fun h1 h2 p k => ?_⟩
    · obtain ⟨m, ⟨o', _, _, ho', _⟩, _⟩ := I2.loc
      exact (ne0 _ _ ho').symm
    · obtain ⟨v', o', ho', _⟩ := I2.cell z c e
      exact ne0 _ _ ho'
    · exact ne0 _ _ (I2.pin p hp').1
    · obtain ⟨t', sl', e'⟩ := p
      exact ⟨t', sl', k _ e'⟩
  have hq := q2 ea hH2
  have r3 : Vals (V.ref ea :: vs) (Value.ref ea :: us) := .cons rfl r2
  have hl : (Value.ref ea :: us ++ []).length = ps.length := by
    have e := r3.length
    rw [Fn.len _ _ _ _ hq] at e
    rw [List.append_nil]
    exact e.symm
  have hbt := hb ⟨h', g, dr, tk, os⟩ (Value.ref ea :: us) I4.kIn hl
  rw [List.append_nil] at hbt
  refine wpAny_call (codeAny_mono (Fn.run _ X.stack _ _ ⟨Value.ref ea :: us, []⟩ (Value.ref ea :: us) _ _ E0 (hr.make C us []) (I4.env0.make C us []) hbt r3 hq) fun r s' hq' => ?_)
  cases r with
  | error e' => exact False.elim hq'
  | ok fl =>
    cases fl with
    | ret u =>
      obtain ⟨v, H5, I5, rv, ⟨ev, d, hd5, w5⟩⟩ := I4.after hq'
      subst ev
      refine ⟨rv, wpAny_bind (wpAny_holding (wpAny_point (wpAny_pure ?_)))⟩
      obtain ⟨⟨t5, sl5, he5⟩, _, _⟩ := I5.hok ea _ hd5
      exact ⟨ea, _, t5, rfl, I5.bk _ _ hC0, he5, rfl, rfl, hxe (I5.drop hd5) he5 rfl (I2.old0 hex hna) (if_pos rfl) rfl w5⟩
    | next => exact False.elim hq'
    | brk => exact False.elim hq'
    | cont => exact False.elim hq'
end
end L2
/-! OWN RULES: try .. with two handlers, the exceptions with their dicts -/
namespace L2
open PySem PySem.Spec PyProof.Rows
/-- a caught exception, by its class and its dict's place -/
def ExcO (ea : Addr) (cls : Value) (dd : Option Addr) : HO := .ext fun h => ∃ o vs, h.get? ea = some o ∧ o.cls = cls ∧ o.data = .fields vs ∧ o.dict = dd
/-- the context of a try's body: W is wanted of an exception that a callee lets go -/
def tryCy (X : Cx) (pn : List (Addr × Obj)) (W : St → Value → Option Addr → Hp → Prop) : Cx :=
  { X with pn := pn, xe := fun e s' => ∃ (pins : List (Addr × Obj)) (σ : St) (H : Hp) (s0 : Shared) (ea : Addr) (cls : Value) (dd : Option Addr) (H' : Hp), e = .ref ea ∧ Inv { X with pn := pn } pins σ H s0 ∧ Fly X.prog X.w X.stack H H' s0 s' ea cls ∧ (∃ oe, s'.heap.get? ea = some oe ∧ oe.dict = dd) ∧ W σ cls dd H' }
section
variable {X : Cx} {pins pn : List (Addr × Obj)} {σ : St} {H H' : Hp} {s s' : Shared}
theorem Inv.toTry2 {W : St → Value → Option Addr → Hp → Prop} (I : Inv X pins σ H s) (h : ∀ p ∈ pn, p ∈ X.pn ++ pins) : Inv (tryCy X pn W) pins σ H s :=
  I.recx (Y := tryCy X pn W) (I.ok.recx (Y := tryCy X pn W) ⟨rfl, rfl, rfl⟩ rfl rfl rfl rfl rfl rfl rfl I.ok.hd I.ok.frames) rfl rfl rfl rfl rfl rfl rfl rfl fun p hp => (List.mem_append.mp hp).elim (h p) fun z => List.mem_append_right _ z
theorem Inv.ofTry2 {W : St → Value → Option Addr → Hp → Prop} (I : Inv (tryCy X pn W) pins σ H s) : Inv { X with pn := pn } pins σ H s :=
  I.recx (Y := { X with pn := pn }) (I.ok.recx (Y := { X with pn := pn }) ⟨rfl, rfl, rfl⟩ rfl rfl rfl rfl rfl rfl rfl I.ok.hd I.ok.frames) rfl rfl rfl rfl rfl rfl rfl rfl fun _ hp => hp
theorem try_xe2 {W : St → Value → Option Addr → Hp → Prop} (I : Inv (tryCy X pn W) pins σ H s) (e : Value) (s' : Shared) (h : CX2 X.prog X.w X.stack H s (fun cls dd H' => W σ cls dd H') e s') : (tryCy X pn W).xe e s' := by
  obtain ⟨ea, cls, dd, H', rfl, F, hd, q⟩ := h
  exact ⟨pins, σ, H, s, ea, cls, dd, H', rfl, I.ofTry2, F, hd, q⟩
/-- an own thing may be told with fewer words -/
theorem Inv.less {a : Addr} {φ ψ : Heap → Prop} (I : Inv X pins σ H s) (ha : H a = some (.ext φ)) (h : ∀ h, φ h → ψ h) (st : ∀ h1 h2 : Heap, ψ h1 → (∀ o, h1.get? a = some o → h2.get? a = some o) → ψ h2) : Inv X pins σ (upd H a (.ext ψ)) s := by
  obtain ⟨p, ⟨o, e⟩, _⟩ := I.hok a _ ha
  exact I.write (t' := s.toks) (x := a) (e := a) (h' := s.heap) (by rw [ha]; exact True.intro) (.inl rfl) (fun b u _ q => q) ⟨o, e⟩ ⟨h _ p, ⟨o, e⟩, st⟩
/-- what is wanted behind a suite: the exception stays as it is; its name is unbound -/
def hEnd (D : Ends) (i : Nat) (ea : Addr) (cls : Value) (dd : Option Addr) : Ends :=
  { nx := fun σ2 H2 => H2 ea = some (ExcO ea cls dd) ∧ D.nx (σ2.set i none) (upd H2 ea (IsExc ea cls))
    rt := fun v H2 => H2 ea = some (ExcO ea cls dd) ∧ D.rt v (upd H2 ea (IsExc ea cls))
    bk := fun σ2 H2 => H2 ea = some (ExcO ea cls dd) ∧ D.bk (σ2.set i none) (upd H2 ea (IsExc ea cls))
    ct := fun σ2 H2 => H2 ea = some (ExcO ea cls dd) ∧ D.ct (σ2.set i none) (upd H2 ea (IsExc ea cls)) }
/-- the handler that fits runs -/
theorem hnd_fits {s0 s1 : Shared} {H1 : Hp} {D : Ends} {x n : Str} {i : Nat} {np hpos : Pos} {b₀ : Stmt} {suite : List Stmt} {rest : List ExceptHandler} {Pc C ea t : Addr} {dd : Option Addr} {ts : TS} {h₅ B : Heap} {σ' : St}
    (hstk : X.stack = X.env :: X.outer) (hex : X.ex = []) (hg : Gl X x) (hm : X.mg x = some (.ref Pc)) (hB : PySem.W.mroIn X.K Pc (.type "BaseException") = some true) (hN : X.N.Nodup) (hi : X.N[i]? = some n) (hn : X.env.scope.names.lookup n = some .local)
    (hs : ∀ ea, PSs (hndCx X ea) (b₀ :: suite) ts) (hdb : (x == ("__debug__" : Str)) = false) (IX : Inv X pins σ' H1 s0) (F : Fly X.prog X.w X.stack H1 H' s0 s1 ea (.ref C)) (hfl5 : Heap.FlyingW B X.stack ea (.ref C) (.ref t) h₅) (hu : s1.heap.UpToSlots h₅)
    (k1 : ∀ b o o', s0.heap.get? b = some o → s1.heap.get? b = some o' → b ∉ frs X.stack → B.get? b = some o') (k2 : ∀ b u o', H' b = some u → s1.heap.get? b = some o' → B.get? b = some o') (hea : H' ea = none) (hdd : ∃ oe, h₅.get? ea = some oe ∧ oe.dict = dd)
    (hsub : PySem.W.kitCls X.K (.ref C) (.ref Pc) = some true) (hts : ts (hEnd D i ea (.ref C) dd) (σ'.set i (some (.ref ea))) (upd H' ea (ExcO ea (.ref C) dd))) :
    wpAny (model X.prog X.w) X.A (handleBy (.ref ea) X.env (.ExceptHandler (some (.Name x np)) (some n) (b₀ :: suite) hpos :: rest)) (SP X pins D) X.xe { s1 with heap := h₅ } := by
  have noE : ∀ b : Addr, b ∉ ([] : List Addr) := fun b => by simp
  have I5 : Inv X pins σ' H' { s1 with heap := h₅ } := fly_here IX F hfl5 hu k1 k2
  obtain ⟨oe, ve, hoe, hoec, hoed, _⟩ := hfl5.first
  refine wpAny_handleBy_cons (codeAny_handlers_test (Calls.Name_function_global I5.ok.kind hg (Calls.loadGlobal_global (by rw [I5.ok.glob]; exact I5.mod.glob.keeps I5.bk) hm ?_) hdb)) (by intro q; cases q)
  refine looks_exc (K := X.K) (h := h₅) I5.kIn hoe hoec hsub hB _ _ _ _ (fun _ _ q => q) ?_
  show codeAny _ _ _ _ _
  refine codeAny_handlers_suite_as ?_
  refine wpAny_mono (wpAny_dk dk_setFlight (lands_againW (E := fun _ _ => False) (Q := fun _ s'' => ∃ h₆, s'' = { s1 with heap := h₆ } ∧ Heap.FlyingW B X.stack ea (.ref C) (.ref t) h₆ ∧ h₅.UpToSlots h₆) hfl5 fun h₆ hfl₆ hsm₆ => ⟨h₆, rfl, hfl₆, hsm₆⟩)) (fun _ s'' ⟨⟨h₆, e6, hfl₆, hsm₆⟩, kd⟩ => ?_) (fun _ _ z => z.1.elim)
  subst e6
  have I6 : Inv X pins σ' H' { s1 with heap := h₆ } := fly_here IX F hfl₆ (hu.trans hsm₆) k1 k2
  obtain ⟨oe6, ve6, hoe6, hoec6, hoed6, _⟩ := hfl₆.first
  have hd6 : oe6.dict = dd := by
    obtain ⟨o5, e5, d5⟩ := hdd
    obtain ⟨o6, e6, d6⟩ := kd ea o5 e5
    have e6' : h₆.get? ea = some o6 := e6
    rw [hoe6] at e6'
    cases e6'
    exact d6.trans d5
  have new0 : X.s₀.heap.get? ea = none := IX.old0 hex F.new
  have ne0 : ∀ b o, s0.heap.get? b = some o → b ≠ ea := fun b o e z => by rw [z, F.new] at e; cases e
  have I7 : Inv X pins σ' (upd H' ea (ExcO ea (.ref C) dd)) { s1 with heap := h₆ } := by
    refine I6.track hex hea new0 ?_ (fun y c e => ?_) (fun p hp => ?_) ⟨⟨oe6, ve6, hoe6, hoec6, hoed6, hd6⟩, ⟨oe6, hoe6⟩, fun h1 h2 p k => ?_⟩
    · obtain ⟨m, ⟨o, _, _, ho, _⟩, _⟩ := IX.loc
      exact (ne0 _ _ ho).symm
    · obtain ⟨v, o, ho, _⟩ := IX.cell y c e
      exact ne0 _ _ ho
    · exact ne0 _ _ (IX.pin p hp).1
    · obtain ⟨o, vs, e1, e2, e3, e4⟩ := p
      exact ⟨o, vs, k o e1, e2, e3, e4⟩
  refine store_ok (v := .ref ea) I7 hN hi (.inl hn) rfl (fun s8 I8 => ?_) (.inr hn)
  refine wpAny_mono (hs ea pins s8 _ _ _ I8.toHnd hts) (fun f s9 q => ?_) (fun _ _ z => z.elim)
  have wk : ∀ {σ9 : St} {H9 : Hp}, Inv X pins σ9 H9 s9 → H9 ea = some (ExcO ea (.ref C) dd) → Inv X pins σ9 (upd H9 ea (IsExc ea (.ref C))) s9 := fun J e => J.less e (fun h ⟨o, vs, a1, a2, a3, _⟩ => ⟨o, vs, a1, a2, a3⟩) fun h1 h2 p k => by
    obtain ⟨o, vs, e1, e2, e3⟩ := p
    exact ⟨o, vs, k o e1, e2, e3⟩
  have behind : ∀ {σ9 : St} {H9 : Hp}, Inv X pins σ9 H9 s9 → (∀ s10, Inv X pins (σ9.set i none) H9 s10 → SP X pins D f s10) →
      wpAny (model X.prog X.w) X.A (do bindName X.env n .none; unbindBehindTheSuite X.env n hpos) (fun _ s₃ => SP X pins D f s₃) X.xe s9 := fun {σ9 H9} J k => by
    refine wpAny_bind (wpAny_bindName (store_ok (v := .non) J hN hi (.inl hn) rfl (fun s10 I10 => ?_) (.inr hn)))
    obtain ⟨m, hm10, hl10⟩ := id I10.loc
    have hiσ : i < σ9.length := by rw [J.len]; exact (List.getElem?_eq_some_iff.mp hi).1
    obtain ⟨u, ru, lk⟩ := hl10 i n .non hi (by rw [List.getElem?_set_self hiσ]) (.inl hn)
    have hmn : m n = some u := by
      rcases lk with ⟨_, q⟩ | ⟨q, _⟩
      · exact q
      · rcases q with q | q
        · have q' : X.env.scope.names.lookup n = some .cell := q
          rw [hn] at q'
          cases q'
        · have q' : X.env.scope.names.lookup n = some .free := q
          rw [hn] at q'
          cases q'
    unfold unbindBehindTheSuite
    refine wpAny_onRaise (wpAny_unbindName_local (env := X.env) hn hm10 hmn (by rw [J.ok.kind]; rfl) fun h' u' hn' hs' => ?_)
    have I11 := I10.unset hN hi hm10 hl10 hn' hs'
    rw [List.set_set] at I11
    exact k _ I11
  show wpAny _ _ _ _ _ _
  cases f with
  | next =>
    obtain ⟨σ9, H9, I9, e9, q⟩ := q
    exact behind (wk (I9.ofHnd I8.ok) e9) fun s10 I10 => ⟨_, _, I10, q⟩
  | brk =>
    obtain ⟨σ9, H9, I9, e9, q⟩ := q
    exact behind (wk (I9.ofHnd I8.ok) e9) fun s10 I10 => ⟨_, _, I10, q⟩
  | cont =>
    obtain ⟨σ9, H9, I9, e9, q⟩ := q
    exact behind (wk (I9.ofHnd I8.ok) e9) fun s10 I10 => ⟨_, _, I10, q⟩
  | ret u =>
    obtain ⟨v, σ9, H9, I9, r, e9, q⟩ := q
    exact behind (wk (I9.ofHnd I8.ok) e9) fun s10 I10 => ⟨v, _, _, I10, r, q⟩
end
/-- try: body / except P1 as n: .. / except P2 as n: .. (n is slot i of both) -/
def tTry2 (K : PySem.W.Frag) (P1 P2 : Addr) (i : Nat) (tb : (St → Value → Option Addr → Hp → Prop) → TS) (ts1 ts2 : TS) : TS := fun D σ H => ∃ W : St → Value → Option Addr → Hp → Prop, tb W D σ H ∧
  ∀ σ' cls dd H' ea, W σ' cls dd H' → H' ea = none → ∃ C, cls = .ref C ∧
    ((PySem.W.kitCls K (.ref C) (.ref P1) = some true ∧ ts1 (hEnd D i ea cls dd) (σ'.set i (some (.ref ea))) (upd H' ea (ExcO ea cls dd))) ∨
     (PySem.W.kitCls K (.ref C) (.ref P1) = some false ∧ PySem.W.kitCls K (.ref C) (.ref P2) = some true ∧ ts2 (hEnd D i ea cls dd) (σ'.set i (some (.ref ea))) (upd H' ea (ExcO ea cls dd))))
section
variable {X : Cx}
theorem ps_try2 {body : List Stmt} {x1 x2 n : Str} {i : Nat} {np1 np2 hp1 hp2 pos : Pos} {b1 b2 : Stmt} {su1 su2 : List Stmt} {P1 P2 : Addr} {tb : (St → Value → Option Addr → Hp → Prop) → TS} {ts1 ts2 : TS}
    (hstk : X.stack = X.env :: X.outer) (hfr : X.env.frame = some X.env.locals) (hex : X.ex = []) (hg1 : Gl X x1) (hm1 : X.mg x1 = some (.ref P1)) (hB1 : PySem.W.mroIn X.K P1 (.type "BaseException") = some true)
    (hg2 : Gl X x2) (hm2 : X.mg x2 = some (.ref P2)) (hB2 : PySem.W.mroIn X.K P2 (.type "BaseException") = some true) (hN : X.N.Nodup) (hi : X.N[i]? = some n) (hn : X.env.scope.names.lookup n = some .local)
    (hb : ∀ pn W, PSs (tryCy X pn W) body (tb W)) (hs1 : ∀ ea, PSs (hndCx X ea) (b1 :: su1) ts1) (hs2 : ∀ ea, PSs (hndCx X ea) (b2 :: su2) ts2) (hd1 : (x1 == ("__debug__" : Str)) = false := by decide) (hd2 : (x2 == ("__debug__" : Str)) = false := by decide) :
    PS X (.Try body [.ExceptHandler (some (.Name x1 np1)) (some n) (b1 :: su1) hp1, .ExceptHandler (some (.Name x2 np2)) (some n) (b2 :: su2) hp2] [] [] pos) (tTry2 X.K P1 P2 i tb ts1 ts2) := by
  intro pins s σ H D I h
  obtain ⟨W, h1, h2⟩ := h
  refine wpAny_Try_except ?_
  have back : ∀ {pins' : List (Addr × Obj)} {σ' : St} {H' : Hp} {s' : Shared}, Inv (tryCy X (X.pn ++ pins) W) pins' σ' H' s' → Inv X pins σ' H' s' := fun J => J.ofTry2.backPn fun _ hp => hp
  refine wpAny_mono (hb (X.pn ++ pins) W pins s σ H D (I.toTry2 fun _ hp => hp) h1) (fun f s1 q => ?_) (fun e s1 q => ?_)
  · cases f with
    | next =>
      obtain ⟨σ1, H1, I1, q⟩ := q
      exact wpAny_execs_nil ⟨σ1, H1, back I1, q⟩
    | brk => obtain ⟨σ1, H1, I1, q⟩ := q; exact ⟨σ1, H1, back I1, q⟩
    | cont => obtain ⟨σ1, H1, I1, q⟩ := q; exact ⟨σ1, H1, back I1, q⟩
    | ret u => obtain ⟨v, σ1, H1, I1, r, q⟩ := q; exact ⟨v, σ1, H1, back I1, r, q⟩
  · obtain ⟨pins', σ', H1, s0, ea, cls, dd, H', rfl, I0, F, ⟨oe, hoe, hdd⟩, wW⟩ := q
    have IX : Inv X pins σ' H1 s0 := I0.backPn fun _ hp => hp
    obtain ⟨B, t, hf, k1, k2⟩ := F.fly
    have hea : H' ea = none := by
      cases q : H' ea with
      | none => rfl
      | some u =>
        obtain ⟨o, e⟩ := (F.hok ea u q).there
        have z := k2 ea u o q e
        rw [hf.2.1] at z
        cases z
    obtain ⟨C, rfl, hts⟩ := h2 σ' cls dd H' ea wW hea
    have frames : X.A.frames = some (X.env :: X.outer) := by rw [IX.ok.frames, hstk]
    have hf' : Heap.FlyingW B (X.env :: X.outer) ea (.ref C) (.ref t) s1.heap := by rw [← hstk]; exact hf
    refine wpAny_mono (wpAny_dk dk_noteFrame (wpAny_looks_onW (E := fun _ _ => False) (Q := fun _ s'' => ∃ h₄, s'' = { s1 with heap := h₄ } ∧ Heap.HeldW B (X.env :: X.outer) ea (.ref C) (.ref t) X.env.locals h₄ ∧ s1.heap.UpToSlots h₄) frames hfr hf' fun h₄ a b => ⟨h₄, rfl, a, b⟩)) (fun _ s'' ⟨⟨h₄, e4, hheld₄, hsm₄⟩, kd4⟩ => ?_) (fun _ _ z => z.1.elim)
    subst e4
    refine wpAny_mono (wpAny_dk dk_setFlight (wpAny_landsW (E := fun _ _ => False) (Q := fun _ s'' => ∃ h₅, s'' = { s1 with heap := h₅ } ∧ Heap.FlyingW B (X.env :: X.outer) ea (.ref C) (.ref t) h₅ ∧ h₄.UpToSlots h₅) hheld₄ fun h₅ a b => ⟨h₅, rfl, a, b⟩)) (fun _ s'' ⟨⟨h₅, e5, hfl₅, hsm₅⟩, kd5⟩ => ?_) (fun _ _ z => z.1.elim)
    subst e5
    have hfl5 : Heap.FlyingW B X.stack ea (.ref C) (.ref t) h₅ := by rw [hstk]; exact hfl₅
    have hd5 : ∃ oe, h₅.get? ea = some oe ∧ oe.dict = dd := by
      obtain ⟨o4, e4, d4⟩ := kd4 ea oe hoe
      obtain ⟨o5, e5, d5⟩ := kd5 ea o4 e4
      exact ⟨o5, e5, (d5.trans d4).trans hdd⟩
    rcases hts with ⟨m1, q1⟩ | ⟨m1, m2, q2⟩
    · exact hnd_fits hstk hex hg1 hm1 hB1 hN hi hn hs1 hd1 IX F hfl5 (hsm₄.trans hsm₅) k1 k2 hea hd5 m1 q1
    · have I5 : Inv X pins σ' H' { s1 with heap := h₅ } := fly_here IX F hfl5 (hsm₄.trans hsm₅) k1 k2
      obtain ⟨oe5, ve5, hoe5, hoec5, hoed5, _⟩ := hfl5.first
      refine wpAny_handleBy_cons (codeAny_handlers_test (Calls.Name_function_global I5.ok.kind hg1 (Calls.loadGlobal_global (by rw [I5.ok.glob]; exact I5.mod.glob.keeps I5.bk) hm1 ?_) hd1)) (by intro q; cases q)
      refine looks_exc (K := X.K) (h := h₅) I5.kIn hoe5 hoec5 m1 hB1 _ _ _ _ (fun _ _ q => q) ?_
      exact hnd_fits hstk hex hg2 hm2 hB2 hN hi hn hs2 hd2 IX F hfl5 (hsm₄.trans hsm₅) k1 k2 hea hd5 m2 q2
/-- e.f of a caught exception -/
def tXFld (K : PySem.W.Frag) (ta : TE) (f : Str) : TE := fun σ H Q => ta σ H fun x H1 => ∃ a C fi d fs v, x = .ref a ∧ H1 a = some (ExcO a (.ref C) (some d)) ∧ H1 d = some (.xd fs) ∧ XInit K C fi f ∧ fs.lookup f = some v ∧ Q v H1
theorem pe_xfld {e : Expr} {f : Str} {pos : Pos} {ta : TE} (he : PE X e ta) (hb : attributeBase e f X.env (eval e X.env) = eval e X.env) : PE X (.Attribute e f pos) (tXFld X.K ta f) := by
  intro pins s σ H Q I h
  refine attr_of hb (thn (he pins s σ H _ I h) fun u s1 ⟨x, H1, I1, rx, a, C, fi, d, fs, v, ex, ea, ed, hI, l, q⟩ => ?_)
  subst ex
  obtain rfl : u = Value.ref a := rx
  obtain ⟨⟨o, vs, e1, e2, e3, e4⟩, _, _⟩ := I1.hok a _ ea
  obtain ⟨mA, hns, r⟩ := I1.hok d _ ed
  obtain ⟨_, bm, N, nm, qn, bs, sn, sub, ab, col, dd, k0, k1, k2, k3, k5, hC, T⟩ := init_obj I1.kIn hI.cls
  have rf := r f
  rw [l] at rf
  cases hv : mA f with
  | none => rw [hv] at rf; exact rf.elim
  | some y =>
    rw [hv] at rf
    have rv : RelV v y := rf
    obtain ⟨hp, g, dr, tk, os⟩ := s1
    exact get_own T hC (PySem.W.looks_findIn I1.kIn hI.ga) (PySem.W.looks_findIn I1.kIn hI.gn) (PySem.W.looks_findIn I1.kIn hI.no) e1 e2 (fun c z => by rw [e3] at z; cases z) e4 hns hv (PySem.W.handedOut_of (handed_of rv)) ⟨v, H1, I1.tok _, rv, q⟩
end
end L2
namespace L2
open PySem PySem.Spec PyProof.Rows
/-- raise C(..) in a def from which such exceptions leave, C with an __init__ of its own -/
theorem ps_raiseJ {P : Program} {w : World} {K : PySem.W.Frag} {mg : Str → Option Value} {base : Heap} {N : List Str} {qual : Str} {scope : Scope} {f : Addr} {cd : Value} {A : Around} {outer : List Env} {s : Shared} {H : Hp} {E : XK} {k : Nat} {fI C : Addr} {fd : FuncData} {ps : List Str} {sp : Sp} {fld x : Str} {e : Expr} {es : List Expr} {t : TA} {np cpos pos : Pos}
    (hg : Gl (cxOf (CX2 P w) P w K mg base N qual scope f cd A outer s H E) x) (hm : mg x = some (.ref C)) (hI : XInit K C fI fld) (Fn : FnOk P w K mg base CX0 k fI fd ps sp) (hr : Room (k + 1) (cxOf (CX2 P w) P w K mg base N qual scope f cd A outer s H E).A) (hb : Binds K fd ps [])
    (ha : PA (cxOf (CX2 P w) P w K mg base N qual scope f cd A outer s H E) (e :: es) t)
    (hdb : (x == ("__debug__" : Str)) = false := by decide) (he : starEach (e :: es) (envOfC qual scope s.heap.objs.size f cd) = (false, eval e (envOfC qual scope s.heap.objs.size f cd)) :: starEach es (envOfC qual scope s.heap.objs.size f cd) := by rfl)
    (hpl : (backTo cpos (starEach es (envOfC qual scope s.heap.objs.size f cd))).any (·.1) = false := by rfl) :
    PS (cxOf (CX2 P w) P w K mg base N qual scope f cd A outer s H E) (.Raise (some (.Call (.Name x np) (e :: es) [] cpos)) none pos) (tRaiseI C sp (E (.ref C)) t) :=
  ps_raiseI rfl rfl hg hm hI Fn hr hb ha (fun I he hd new hn hc q => raise2 I he hd new hn (by rw [hc]; exact q)) hdb he hpl
end L2
namespace L2
open PySem PySem.Spec PyProof.Rows
end L2
namespace L2
open PySem PySem.Spec PyProof.Rows
/-- n.f of a caught exception, n the name at slot i (in a handler's suite, whose reading may not hang on the exception: so K is said) -/
theorem px {X : Cx} {K : PySem.W.Frag} (i : Nat) {x f : Str} {p pos : Pos} (hK : X.K = K := by rfl) (hN : X.N[i]? = some x := by rfl) (hv : Vis X.env.scope x := by first | exact Or.inl rfl | exact Or.inr (Or.inl rfl) | exact Or.inr (Or.inr rfl)) (hd : (x == ("__debug__" : Str)) = false := by decide)
    (hcd : (x == ("__classdict__" : Str)) = false := by decide) (hb : attributeBase (.Name x p) f X.env (eval (.Name x p) X.env) = eval (.Name x p) X.env := by rfl) : PE X (.Attribute (.Name x p) f pos) (tXFld K (tVar i) f) := by
  subst hK
  exact pe_xfld (pv i hN hv hd hcd) hb
end L2
/-! OWN RULES: methods and new instances in a try's body, exceptions with their dicts; one handler -/
namespace L2
open PySem PySem.Spec PyProof.Rows
section
variable {X : Cx} {pn : List (Addr × Obj)}
def tMethU (C : Addr) (m : Str) (sp : Sp) (dvs : List V) (W : St → Value → Option Addr → Hp → Prop) (ta : TE) (t : TA) : TE := fun σ H Q => ta σ H fun x H1 => ∃ a dx fs, x = .ref a ∧ H1 a = some (.ins C dx fs) ∧ fs.lookup m = none ∧
  t σ H1 fun vs H2 => sp (x :: (vs ++ dvs)) H2 Q fun cls dd H' => W σ cls dd H'
/-- o.m(e, ..) in a try's body -/
theorem pe_methU {W : St → Value → Option Addr → Hp → Prop} {k : Nat} {f C : Addr} {fd : FuncData} {ps : List Str} {sp : Sp} {dvs : List V} {ds : List Value} {m : Str} {apos pos : Pos} {o e : Expr} {es : List Expr} {ta : TE} {t : TA} {pl : Sem Bool}
    (he : PE (tryCy X pn W) o ta) (c : Cls X.K C) (hm : Meth X.K C m f) (F : FnOk X.prog X.w X.K X.mg X.base (CX2 X.prog X.w) k f fd ps sp) (hr : Room k X.A) (hb : Binds X.K fd ps ds) (hd : Vals dvs ds) (ha : PA (tryCy X pn W) (e :: es) t)
    (hst : starEach (e :: es) X.env = (false, eval e X.env) :: starEach es X.env := by rfl) (hpl : (backTo pos (starEach es X.env)).any (·.1) = false := by rfl)
    (ht : eval (.Call (.Attribute o m apos) (e :: es) [] pos) X.env = (do
      let ov ← eval o X.env
      standAt apos.atName
      let (f, first) ← holding [ov] (getMethod ov m pl)
      callWith pos f first (backTo pos (starEach (e :: es) X.env)) (backToKw pos (keywordEach [] X.env))) := by rfl) :
    PE (tryCy X pn W) (.Call (.Attribute o m apos) (e :: es) [] pos) (tMethU C m sp dvs W ta t) := by
  intro pins s σ H Q I h
  refine PySem.W.methodCall_KW (pl := pl) (thn (he pins s σ H _ I h) fun u s1 ⟨x, H1, I1, rx, a, dx, fs, ex, ea, l, q⟩ => ?_) ht
  subst ex
  obtain rfl : u = Value.ref a := rx
  refine getmeth_ok I1 ea c hm l ?_
  refine PySem.W.callWith_K (first := [.ref a]) (h₀ := X.base) I.ok.mod.kin hm.kp (thn (ha pos pins s1 σ H1 _ I1 q) fun us s2 ⟨vs, H2, I2, r, q2⟩ => ⟨I2.kIn, ?_⟩) hst hpl
  exact run_fnT (us := .ref a :: us) (vs := .ref a :: vs) F hr hb hd I2 (try_xe2 I2) (.cons rfl r) q2
/-- C(e, .., k = v, ..) in a try's body -/
def tMakeU (C : Addr) (sp : Sp) (gV : List V → List V → List V) (W : St → Value → Option Addr → Hp → Prop) (t tk : TA) : TE := fun σ H Q => t σ H fun vs H1 => tk σ H1 fun zs H2 => ∀ x dx, H2 x = none → H2 dx = none → dx ≠ x → sp (gV (.ref x :: vs) zs) (upd (upd H2 dx (.own x)) x (.ins C dx [])) (fun v H3 => v = .non ∧ Q (.ref x) H3) fun cls dd H' => W σ cls dd H'
theorem pe_makeU {W : St → Value → Option Addr → Hp → Prop} {k : Nat} {f C : Addr} {fd : FuncData} {ps ks : List Str} {sp : Sp} {g : List Value → List Value → List Value} {gV : List V → List V → List V} {x : Str} {p pos : Pos} {e : Expr} {es : List Expr} {kws : List Keyword} {t tk : TA}
    (M : Mk X.K C f) (F : FnOk X.prog X.w X.K X.mg X.base (CX2 X.prog X.w) k f fd ps sp) (hr : Room (k + 1) X.A) (hg : Gl X x) (hm : X.mg x = some (.ref C)) (hb : KBinds X.K fd ps ks g gV)
    (ha : PA (tryCy X pn W) (e :: es) t) (hkw : PK (tryCy X pn W) kws tk) (hall : (backToKw pos (keywordEach kws X.env)).all (·.1.isSome) = true := by rfl) (hks : (backToKw pos (keywordEach kws X.env)).filterMap (·.1) = ks := by rfl)
    (hdb : (x == ("__debug__" : Str)) = false := by decide) (he : starEach (e :: es) X.env = (false, eval e X.env) :: starEach es X.env := by rfl)
    (hpl : ((backTo pos (starEach (e :: es) X.env)).any (·.1) || (backToKw pos (keywordEach kws X.env)).any (·.1.isNone)) = false := by rfl) :
    PE (tryCy X pn W) (.Call (.Name x p) (e :: es) kws pos) (tMakeU C sp gV W t tk) := by
  intro pins s σ H Q I h
  refine wpAny_Call_Name_kw (ld_glob I hg hm ?_ hdb)
  refine PySem.W.callWith_KW (h₀ := X.base) I.ok.mod.kin M.kp hall (thn (ha pos pins s σ H _ I h) fun us s1 ⟨vs, H1, I1, r, q⟩ => ?_) hpl he
  refine thn (hkw pos pins s1 σ H1 _ I1 q) fun ws s2 ⟨zs, H2, I2, rz, q2⟩ => ⟨I2.kIn, ?_⟩
  subst hks
  have hq := q2 (s2.heap.objs.size + 1) s2.heap.objs.size (I2.hok.fresh (Nat.le_succ _)) (I2.hok.fresh (Nat.le_refl _)) (Nat.ne_of_lt (Nat.lt_succ_self _))
  have I3 := Inv.made (C := C) I2
  have r2 := hb.rel (Paired.cons (show RelV (V.ref (s2.heap.objs.size + 1)) (Value.ref (s2.heap.objs.size + 1)) from rfl) r) rz
  have hl : (g (Value.ref (s2.heap.objs.size + 1) :: us) ws).length = ps.length := by
    rw [← Paired.length r2]
    exact F.len _ _ _ _ hq
  refine wpAny_call (make_map (f := f) I2.kIn M.makes M.init (beq_iff_eq.mp M.fn) (codeAny_mono (F.run _ X.stack _ _ ⟨Value.ref (s2.heap.objs.size + 1) :: us, _⟩ _ _ _ _ (hr.make C us _)
    (I3.env0.make C us _) (hb.to _ _ _ I3.kIn hl) r2 hq) fun r' s' hq' => ?_))
  cases r' with
  | error e => exact try_xe2 I3 e s' hq'
  | ok fl =>
    cases fl with
    | ret u =>
      obtain ⟨v, H', I4, rv, ev, q3⟩ := I3.after hq'
      subst ev
      exact ⟨rv, ⟨V.ref (s2.heap.objs.size + 1), H', I4, rfl, q3⟩⟩
    | next => exact False.elim hq'
    | brk => exact False.elim hq'
    | cont => exact False.elim hq'
end
/-- try: body / except P1 as n: .. -/
def tTry1 (K : PySem.W.Frag) (P1 : Addr) (i : Nat) (tb : (St → Value → Option Addr → Hp → Prop) → TS) (ts : TS) : TS := fun D σ H => ∃ W : St → Value → Option Addr → Hp → Prop, tb W D σ H ∧
  ∀ σ' cls dd H' ea, W σ' cls dd H' → H' ea = none → ∃ C, cls = .ref C ∧ PySem.W.kitCls K (.ref C) (.ref P1) = some true ∧ ts (hEnd D i ea cls dd) (σ'.set i (some (.ref ea))) (upd H' ea (ExcO ea cls dd))
section
variable {X : Cx}
theorem ps_tryU {body : List Stmt} {x1 n : Str} {i : Nat} {np1 hp1 pos : Pos} {b1 : Stmt} {su1 : List Stmt} {P1 : Addr} {tb : (St → Value → Option Addr → Hp → Prop) → TS} {ts1 : TS}
    (hstk : X.stack = X.env :: X.outer) (hfr : X.env.frame = some X.env.locals) (hex : X.ex = []) (hg1 : Gl X x1) (hm1 : X.mg x1 = some (.ref P1)) (hB1 : PySem.W.mroIn X.K P1 (.type "BaseException") = some true)
    (hN : X.N.Nodup) (hi : X.N[i]? = some n) (hn : X.env.scope.names.lookup n = some .local)
    (hb : ∀ pn W, PSs (tryCy X pn W) body (tb W)) (hs1 : ∀ ea, PSs (hndCx X ea) (b1 :: su1) ts1) (hd1 : (x1 == ("__debug__" : Str)) = false := by decide) :
    PS X (.Try body [.ExceptHandler (some (.Name x1 np1)) (some n) (b1 :: su1) hp1] [] [] pos) (tTry1 X.K P1 i tb ts1) := by
  intro pins s σ H D I h
  obtain ⟨W, h1, h2⟩ := h
  refine wpAny_Try_except ?_
  have back : ∀ {pins' : List (Addr × Obj)} {σ' : St} {H' : Hp} {s' : Shared}, Inv (tryCy X (X.pn ++ pins) W) pins' σ' H' s' → Inv X pins σ' H' s' := fun J => J.ofTry2.backPn fun _ hp => hp
  refine wpAny_mono (hb (X.pn ++ pins) W pins s σ H D (I.toTry2 fun _ hp => hp) h1) (fun f s1 q => ?_) (fun e s1 q => ?_)
  · cases f with
    | next =>
      obtain ⟨σ1, H1, I1, q⟩ := q
      exact wpAny_execs_nil ⟨σ1, H1, back I1, q⟩
    | brk => obtain ⟨σ1, H1, I1, q⟩ := q; exact ⟨σ1, H1, back I1, q⟩
    | cont => obtain ⟨σ1, H1, I1, q⟩ := q; exact ⟨σ1, H1, back I1, q⟩
    | ret u => obtain ⟨v, σ1, H1, I1, r, q⟩ := q; exact ⟨v, σ1, H1, back I1, r, q⟩
  · obtain ⟨pins', σ', H1, s0, ea, cls, dd, H', rfl, I0, F, ⟨oe, hoe, hdd⟩, wW⟩ := q
    have IX : Inv X pins σ' H1 s0 := I0.backPn fun _ hp => hp
    obtain ⟨B, t, hf, k1, k2⟩ := F.fly
    have hea : H' ea = none := by
      cases q : H' ea with
      | none => rfl
      | some u =>
        obtain ⟨o, e⟩ := (F.hok ea u q).there
        have z := k2 ea u o q e
        rw [hf.2.1] at z
        cases z
    obtain ⟨C, rfl, m1, q1⟩ := h2 σ' cls dd H' ea wW hea
    have frames : X.A.frames = some (X.env :: X.outer) := by rw [IX.ok.frames, hstk]
    have hf' : Heap.FlyingW B (X.env :: X.outer) ea (.ref C) (.ref t) s1.heap := by rw [← hstk]; exact hf
    refine wpAny_mono (wpAny_dk dk_noteFrame (wpAny_looks_onW (E := fun _ _ => False) (Q := fun _ s'' => ∃ h₄, s'' = { s1 with heap := h₄ } ∧ Heap.HeldW B (X.env :: X.outer) ea (.ref C) (.ref t) X.env.locals h₄ ∧ s1.heap.UpToSlots h₄) frames hfr hf' fun h₄ a b => ⟨h₄, rfl, a, b⟩)) (fun _ s'' ⟨⟨h₄, e4, hheld₄, hsm₄⟩, kd4⟩ => ?_) (fun _ _ z => z.1.elim)
    subst e4
    refine wpAny_mono (wpAny_dk dk_setFlight (wpAny_landsW (E := fun _ _ => False) (Q := fun _ s'' => ∃ h₅, s'' = { s1 with heap := h₅ } ∧ Heap.FlyingW B (X.env :: X.outer) ea (.ref C) (.ref t) h₅ ∧ h₄.UpToSlots h₅) hheld₄ fun h₅ a b => ⟨h₅, rfl, a, b⟩)) (fun _ s'' ⟨⟨h₅, e5, hfl₅, hsm₅⟩, kd5⟩ => ?_) (fun _ _ z => z.1.elim)
    subst e5
    have hfl5 : Heap.FlyingW B X.stack ea (.ref C) (.ref t) h₅ := by rw [hstk]; exact hfl₅
    obtain ⟨o4, e4, d4⟩ := kd4 ea oe hoe
    obtain ⟨o5, e5, d5⟩ := kd5 ea o4 e4
    exact hnd_fits hstk hex hg1 hm1 hB1 hN hi hn hs1 hd1 IX F hfl5 (hsm₄.trans hsm₅) k1 k2 hea ⟨o5, e5, (d5.trans d4).trans hdd⟩ m1 q1
end
end L2

set_option Elab.async false
set_option linter.all false
set_option maxRecDepth 100000
namespace M
structure O where
  p : Int
  n : Int
  g : Int
  m : Int
  deriving DecidableEq
/-- take k to place i of a list -/
def addAt (s : List Int) (i : Nat) (k : Int) : List Int := s.set i (s.getD i 0 + k)
def step (s : List Int) (o : O) : List Int := addAt (addAt s o.p.toNat (-o.m)) o.g.toNat o.m
end M

namespace M
open PySem L2
theorem pa_2 {X : Cx} {e0 e1 : Expr} {t0 t1 : TE} (h0 : PE X e0 t0) (h1 : PE X e1 t1) (s0 : isStar e0 = false := by rfl) (s1 : isStar e1 = false := by rfl) : PA X [e0, e1] (tCons t0 (tCons t1 tNil)) := by
  refine pa_more h0 ?_ s0
  refine pa_more h1 ?_ s1
  exact pa_nil
theorem pa_3 {X : Cx} {e0 e1 e2 : Expr} {t0 t1 t2 : TE} (h0 : PE X e0 t0) (h1 : PE X e1 t1) (h2 : PE X e2 t2) (s0 : isStar e0 = false := by rfl) (s1 : isStar e1 = false := by rfl) (s2 : isStar e2 = false := by rfl) : PA X [e0, e1, e2] (tCons t0 (tCons t1 (tCons t2 tNil))) := by
  refine pa_more h0 ?_ s0
  refine pa_more h1 ?_ s1
  refine pa_more h2 ?_ s2
  exact pa_nil
theorem pa_4 {X : Cx} {e0 e1 e2 e3 : Expr} {t0 t1 t2 t3 : TE} (h0 : PE X e0 t0) (h1 : PE X e1 t1) (h2 : PE X e2 t2) (h3 : PE X e3 t3) (s0 : isStar e0 = false := by rfl) (s1 : isStar e1 = false := by rfl) (s2 : isStar e2 = false := by rfl) (s3 : isStar e3 = false := by rfl) : PA X [e0, e1, e2, e3] (tCons t0 (tCons t1 (tCons t2 (tCons t3 tNil)))) := by
  refine pa_more h0 ?_ s0
  refine pa_more h1 ?_ s1
  refine pa_more h2 ?_ s2
  refine pa_more h3 ?_ s3
  exact pa_nil
theorem pa_5 {X : Cx} {e0 e1 e2 e3 e4 : Expr} {t0 t1 t2 t3 t4 : TE} (h0 : PE X e0 t0) (h1 : PE X e1 t1) (h2 : PE X e2 t2) (h3 : PE X e3 t3) (h4 : PE X e4 t4) (s0 : isStar e0 = false := by rfl) (s1 : isStar e1 = false := by rfl) (s2 : isStar e2 = false := by rfl) (s3 : isStar e3 = false := by rfl) (s4 : isStar e4 = false := by rfl) : PA X [e0, e1, e2, e3, e4] (tCons t0 (tCons t1 (tCons t2 (tCons t3 (tCons t4 tNil))))) := by
  refine pa_more h0 ?_ s0
  refine pa_more h1 ?_ s1
  refine pa_more h2 ?_ s2
  refine pa_more h3 ?_ s3
  refine pa_more h4 ?_ s4
  exact pa_nil
theorem pa_6 {X : Cx} {e0 e1 e2 e3 e4 e5 : Expr} {t0 t1 t2 t3 t4 t5 : TE} (h0 : PE X e0 t0) (h1 : PE X e1 t1) (h2 : PE X e2 t2) (h3 : PE X e3 t3) (h4 : PE X e4 t4) (h5 : PE X e5 t5) (s0 : isStar e0 = false := by rfl) (s1 : isStar e1 = false := by rfl) (s2 : isStar e2 = false := by rfl) (s3 : isStar e3 = false := by rfl) (s4 : isStar e4 = false := by rfl) (s5 : isStar e5 = false := by rfl) : PA X [e0, e1, e2, e3, e4, e5] (tCons t0 (tCons t1 (tCons t2 (tCons t3 (tCons t4 (tCons t5 tNil)))))) := by
  refine pa_more h0 ?_ s0
  refine pa_more h1 ?_ s1
  refine pa_more h2 ?_ s2
  refine pa_more h3 ?_ s3
  refine pa_more h4 ?_ s4
  refine pa_more h5 ?_ s5
  exact pa_nil
def top (i : Nat) : Stmt := PySem.Challenge.pw_manypurses_k16_wallets_refused.main.body.getD i (.Pass ⟨0, 0, 0, 0⟩)
abbrev s_is_whole : Stmt := top 1
abbrev s_is_between : Stmt := top 2
abbrev s_is_order : Stmt := top 27
abbrev s_are_rising : Stmt := top 3
abbrev s_enough_of : Stmt := top 9
abbrev s_checked : Stmt := top 29
abbrev s_is_house_count : Stmt := top 7
abbrev s_is_few : Stmt := top 8
abbrev s_are_sums : Stmt := top 33
abbrev s_NoPurse___init__ : Stmt := inClass (top 16) 0
abbrev s_put_new : Stmt := top 35
abbrev s_sum_of : Stmt := top 36
abbrev s_Wallet___init__ : Stmt := inClass (top 37) 0
abbrev s_Wallet_add : Stmt := inClass (top 37) 1
abbrev s_Wallet_has : Stmt := inClass (top 37) 2
abbrev s_Wallet_next_number : Stmt := inClass (top 37) 3
abbrev s_Wallet_order : Stmt := inClass (top 37) 4
abbrev s__law_town : Stmt := top 39
abbrev s__law_draw : Stmt := top 40
abbrev s__law_pick : Stmt := top 41
abbrev s__law_refusal : Stmt := top 42
abbrev s__law_made : Stmt := top 43
abbrev s__law_asked : Stmt := top 44
abbrev s_law : Stmt := top 45
theorem sc_is_whole : FnScope ["thing"] ["thing"] (defScope s_is_whole) := ⟨rfl, rfl, rfl, by decide +kernel, rfl, by decide +kernel, by decide +kernel⟩
theorem sc_is_between : FnScope ["thing", "low", "high"] ["thing", "low", "high"] (defScope s_is_between) := ⟨rfl, rfl, rfl, by decide +kernel, rfl, by decide +kernel, by decide +kernel⟩
theorem sc_is_order : FnScope ["thing", "purses", "purse", "number", "goal", "much"] ["thing", "purses"] (defScope s_is_order) := ⟨rfl, rfl, rfl, by decide +kernel, rfl, by decide +kernel, by decide +kernel⟩
theorem sc_are_rising : FnScope ["things", "bound", "least", "thing"] ["things", "bound"] (defScope s_are_rising) := ⟨rfl, rfl, rfl, by decide +kernel, rfl, by decide +kernel, by decide +kernel⟩
theorem sc_enough_of : FnScope ["houses", "few"] ["houses", "few"] (defScope s_enough_of) := ⟨rfl, rfl, rfl, by decide +kernel, rfl, by decide +kernel, by decide +kernel⟩
theorem sc_checked : FnScope ["paper", "houses", "few", "purses", "order", "signers"] ["paper", "houses", "few", "purses"] (defScope s_checked) := ⟨rfl, rfl, rfl, by decide +kernel, rfl, by decide +kernel, by decide +kernel⟩
theorem sc_is_house_count : FnScope ["thing"] ["thing"] (defScope s_is_house_count) := ⟨rfl, rfl, rfl, by decide +kernel, rfl, by decide +kernel, by decide +kernel⟩
theorem sc_is_few : FnScope ["thing"] ["thing"] (defScope s_is_few) := ⟨rfl, rfl, rfl, by decide +kernel, rfl, by decide +kernel, by decide +kernel⟩
theorem sc_are_sums : FnScope ["thing"] ["thing"] (defScope s_are_sums) := ⟨rfl, rfl, rfl, by decide +kernel, rfl, by decide +kernel, by decide +kernel⟩
theorem sc_NoPurse___init__ : FnScope ["self", "purse"] ["self", "purse"] (defScope s_NoPurse___init__) := ⟨rfl, rfl, rfl, by decide +kernel, rfl, by decide +kernel, by decide +kernel⟩
theorem sc_put_new : FnScope ["papers", "key", "paper"] ["papers", "key", "paper"] (defScope s_put_new) := ⟨rfl, rfl, rfl, by decide +kernel, rfl, by decide +kernel, by decide +kernel⟩
theorem sc_sum_of : FnScope ["papers"] ["papers"] (defScope s_sum_of) := ⟨rfl, rfl, rfl, by decide +kernel, rfl, by decide +kernel, by decide +kernel⟩
theorem sc_Wallet___init__ : FnScope ["self", "purse", "sums", "houses", "few"] ["self", "purse", "sums", "houses", "few"] (defScope s_Wallet___init__) := ⟨rfl, rfl, rfl, by decide +kernel, rfl, by decide +kernel, by decide +kernel⟩
theorem sc_Wallet_add : FnScope ["self", "paper", "purse", "number", "goal", "much"] ["self", "paper"] (defScope s_Wallet_add) := ⟨rfl, rfl, rfl, by decide +kernel, rfl, by decide +kernel, by decide +kernel⟩
theorem sc_Wallet_has : FnScope ["self"] ["self"] (defScope s_Wallet_has) := ⟨rfl, rfl, rfl, by decide +kernel, rfl, by decide +kernel, by decide +kernel⟩
theorem sc_Wallet_next_number : FnScope ["self", "number"] ["self"] (defScope s_Wallet_next_number) := ⟨rfl, rfl, rfl, by decide +kernel, rfl, by decide +kernel, by decide +kernel⟩
theorem sc_Wallet_order : FnScope ["self", "goal", "much"] ["self", "goal", "much"] (defScope s_Wallet_order) := ⟨rfl, rfl, rfl, by decide +kernel, rfl, by decide +kernel, by decide +kernel⟩
theorem sc__law_town : FnScope ["_law_script"] ["_law_script"] (defScope s__law_town) := ⟨rfl, rfl, rfl, by decide +kernel, rfl, by decide +kernel, by decide +kernel⟩
theorem sc__law_draw : FnScope ["_law_town_here", "_law_many", "_law_row", "_law_at", "_law_cell", "_law_mixed"] ["_law_town_here", "_law_many"] (defScope s__law_draw) := ⟨rfl, rfl, rfl, by decide +kernel, rfl, by decide +kernel, by decide +kernel⟩
theorem sc__law_pick : FnScope ["_law_town_here", "_law_some"] ["_law_town_here", "_law_some"] (defScope s__law_pick) := ⟨rfl, rfl, rfl, by decide +kernel, rfl, by decide +kernel, by decide +kernel⟩
theorem sc__law_refusal : FnScope ["_law_caught", "_law_kinds", "_law_words"] ["_law_caught"] (defScope s__law_refusal) := ⟨rfl, rfl, rfl, by decide +kernel, rfl, by decide +kernel, by decide +kernel⟩
theorem sc__law_made : FnScope ["_law_purse", "_law_begin", "_law_crew", "_law_some", "_law_caught", "e"] ["_law_purse", "_law_begin", "_law_crew", "_law_some"] (defScope s__law_made) := ⟨rfl, rfl, rfl, by decide +kernel, rfl, by decide +kernel, by decide +kernel⟩
theorem sc__law_asked : FnScope ["_law_shutet", "_law_kind", "_law_one", "_law_two", "_law_caught", "_law_found", "e"] ["_law_shutet", "_law_kind", "_law_one", "_law_two"] (defScope s__law_asked) := ⟨rfl, rfl, rfl, by decide +kernel, rfl, by decide +kernel, by decide +kernel⟩
theorem sc_law : FnScope ["_law_script", "_law_town_here", "_law_turn", "_law_begin", "_law_purse", "_law_crew", "_law_some", "_law_found", "_law_shutet", "_law_bad"] ["_law_script"] (defScope s_law) := ⟨rfl, rfl, rfl, by decide +kernel, rfl, by decide +kernel, by decide +kernel⟩
theorem nd_0 : (["each"] : List Str).Nodup := by decide +kernel
theorem nd_1 : (["order", "signers"] : List Str).Nodup := by decide +kernel
theorem boot_isinstance : bootBuiltins "isinstance" = some (.builtin "isinstance") := by decide +kernel
theorem boot_bool : bootBuiltins "bool" = some (.type "bool") := by decide +kernel
theorem boot_int : bootBuiltins "int" = some (.type "int") := by decide +kernel
theorem boot_len : bootBuiltins "len" = some (.builtin "len") := by decide +kernel
theorem boot_tuple : bootBuiltins "tuple" = some (.type "tuple") := by decide +kernel
theorem boot_all : bootBuiltins "all" = some (.builtin "all") := by decide +kernel
theorem boot_list : bootBuiltins "list" = some (.type "list") := by decide +kernel
theorem boot_sum : bootBuiltins "sum" = some (.builtin "sum") := by decide +kernel
theorem boot_ValueError : bootBuiltins "ValueError" = some (.type "ValueError") := by decide +kernel
theorem boot_range : bootBuiltins "range" = some (.type "range") := by decide +kernel
structure Ad where
  f_is_whole : Addr
  d_is_whole : FuncData
  f_is_between : Addr
  d_is_between : FuncData
  f_is_order : Addr
  d_is_order : FuncData
  f_are_rising : Addr
  d_are_rising : FuncData
  f_enough_of : Addr
  d_enough_of : FuncData
  f_checked : Addr
  d_checked : FuncData
  f_is_house_count : Addr
  d_is_house_count : FuncData
  f_is_few : Addr
  d_is_few : FuncData
  f_are_sums : Addr
  d_are_sums : FuncData
  f_NoPurse___init__ : Addr
  d_NoPurse___init__ : FuncData
  f_put_new : Addr
  d_put_new : FuncData
  f_sum_of : Addr
  d_sum_of : FuncData
  f_Wallet___init__ : Addr
  d_Wallet___init__ : FuncData
  f_Wallet_add : Addr
  d_Wallet_add : FuncData
  f_Wallet_has : Addr
  d_Wallet_has : FuncData
  f_Wallet_next_number : Addr
  d_Wallet_next_number : FuncData
  f_Wallet_order : Addr
  d_Wallet_order : FuncData
  f__law_town : Addr
  d__law_town : FuncData
  f__law_draw : Addr
  d__law_draw : FuncData
  f__law_pick : Addr
  d__law_pick : FuncData
  f__law_refusal : Addr
  d__law_refusal : FuncData
  f__law_made : Addr
  d__law_made : FuncData
  f__law_asked : Addr
  d__law_asked : FuncData
  f_law : Addr
  d_law : FuncData
  a_Wallet : Addr
  a_TooMuch : Addr
  a_BadNumber : Addr
  a_NoPurse : Addr
  a_BadPaper : Addr
  a_BadHouses : Addr
  a_PurseError : Addr
  a_BadCut : Addr
  a_BadText : Addr
  a_NotNow : Addr
  a_NoHouse : Addr
  a_NoLetter : Addr
  a_BadOrder : Addr
def asked (t : Ad) : List Value := [.ref t.a_BadNumber, .ref t.a_BadOrder, .ref t.a_BadHouses, .ref t.a_NoHouse, .ref t.a_NoPurse, .ref t.a_NoLetter, .ref t.a_NotNow, .ref t.a_TooMuch, .ref t.a_BadPaper, .ref t.a_BadCut, .ref t.a_BadText, .ref t.a_PurseError, .type "ValueError"]
structure Txt (K : PySem.W.Frag) (mg : Str → Option Value) (t : Ad) : Prop where
  F_is_whole : Fun K "is_whole" "is_whole" s_is_whole t.f_is_whole t.d_is_whole
  m_is_whole : mg "is_whole" = some (.ref t.f_is_whole)
  b_is_whole : Binds K t.d_is_whole ["thing"] []
  F_is_between : Fun K "is_between" "is_between" s_is_between t.f_is_between t.d_is_between
  m_is_between : mg "is_between" = some (.ref t.f_is_between)
  b_is_between : Binds K t.d_is_between ["thing", "low", "high"] []
  F_is_order : Fun K "is_order" "is_order" s_is_order t.f_is_order t.d_is_order
  m_is_order : mg "is_order" = some (.ref t.f_is_order)
  bk0_is_order : KBinds K t.d_is_order ["thing", "purses"] ["purses"] kb11 kb11
  F_are_rising : Fun K "are_rising" "are_rising" s_are_rising t.f_are_rising t.d_are_rising
  m_are_rising : mg "are_rising" = some (.ref t.f_are_rising)
  b_are_rising : Binds K t.d_are_rising ["things", "bound"] []
  F_enough_of : Fun K "enough_of" "enough_of" s_enough_of t.f_enough_of t.d_enough_of
  m_enough_of : mg "enough_of" = some (.ref t.f_enough_of)
  bk0_enough_of : KBinds K t.d_enough_of ["houses", "few"] ["few"] kb11 kb11
  F_checked : Fun K "checked" "checked" s_checked t.f_checked t.d_checked
  m_checked : mg "checked" = some (.ref t.f_checked)
  bk0_checked : KBinds K t.d_checked ["paper", "houses", "few", "purses"] ["houses", "few", "purses"] kb13 kb13
  F_is_house_count : Fun K "is_house_count" "is_house_count" s_is_house_count t.f_is_house_count t.d_is_house_count
  m_is_house_count : mg "is_house_count" = some (.ref t.f_is_house_count)
  b_is_house_count : Binds K t.d_is_house_count ["thing"] []
  F_is_few : Fun K "is_few" "is_few" s_is_few t.f_is_few t.d_is_few
  m_is_few : mg "is_few" = some (.ref t.f_is_few)
  b_is_few : Binds K t.d_is_few ["thing"] []
  F_are_sums : Fun K "are_sums" "are_sums" s_are_sums t.f_are_sums t.d_are_sums
  m_are_sums : mg "are_sums" = some (.ref t.f_are_sums)
  b_are_sums : Binds K t.d_are_sums ["thing"] []
  F_NoPurse___init__ : Fun K "__init__" "NoPurse.__init__" s_NoPurse___init__ t.f_NoPurse___init__ t.d_NoPurse___init__
  xin_NoPurse : XInit K t.a_NoPurse t.f_NoPurse___init__ "purse"
  b_NoPurse___init__ : Binds K t.d_NoPurse___init__ ["self", "purse"] []
  F_put_new : Fun K "put_new" "put_new" s_put_new t.f_put_new t.d_put_new
  m_put_new : mg "put_new" = some (.ref t.f_put_new)
  b_put_new : Binds K t.d_put_new ["papers", "key", "paper"] []
  F_sum_of : Fun K "sum_of" "sum_of" s_sum_of t.f_sum_of t.d_sum_of
  m_sum_of : mg "sum_of" = some (.ref t.f_sum_of)
  b_sum_of : Binds K t.d_sum_of ["papers"] []
  F_Wallet___init__ : Fun K "__init__" "Wallet.__init__" s_Wallet___init__ t.f_Wallet___init__ t.d_Wallet___init__
  mt_Wallet___init__ : Meth K t.a_Wallet "__init__" t.f_Wallet___init__
  mk_Wallet : Mk K t.a_Wallet t.f_Wallet___init__
  bk0_Wallet___init__ : KBinds K t.d_Wallet___init__ ["self", "purse", "sums", "houses", "few"] ["sums", "houses", "few"] kb23 kb23
  F_Wallet_add : Fun K "add" "Wallet.add" s_Wallet_add t.f_Wallet_add t.d_Wallet_add
  mt_Wallet_add : Meth K t.a_Wallet "add" t.f_Wallet_add
  b_Wallet_add : Binds K t.d_Wallet_add ["self", "paper"] []
  F_Wallet_has : Fun K "has" "Wallet.has" s_Wallet_has t.f_Wallet_has t.d_Wallet_has
  mt_Wallet_has : Meth K t.a_Wallet "has" t.f_Wallet_has
  b_Wallet_has : Binds K t.d_Wallet_has ["self"] []
  F_Wallet_next_number : Fun K "next_number" "Wallet.next_number" s_Wallet_next_number t.f_Wallet_next_number t.d_Wallet_next_number
  mt_Wallet_next_number : Meth K t.a_Wallet "next_number" t.f_Wallet_next_number
  b_Wallet_next_number : Binds K t.d_Wallet_next_number ["self"] []
  F_Wallet_order : Fun K "order" "Wallet.order" s_Wallet_order t.f_Wallet_order t.d_Wallet_order
  mt_Wallet_order : Meth K t.a_Wallet "order" t.f_Wallet_order
  b_Wallet_order : Binds K t.d_Wallet_order ["self", "goal", "much"] []
  F__law_town : Fun K "_law_town" "_law_town" s__law_town t.f__law_town t.d__law_town
  m__law_town : mg "_law_town" = some (.ref t.f__law_town)
  b__law_town : Binds K t.d__law_town ["_law_script"] []
  F__law_draw : Fun K "_law_draw" "_law_draw" s__law_draw t.f__law_draw t.d__law_draw
  m__law_draw : mg "_law_draw" = some (.ref t.f__law_draw)
  b__law_draw : Binds K t.d__law_draw ["_law_town_here", "_law_many"] []
  F__law_pick : Fun K "_law_pick" "_law_pick" s__law_pick t.f__law_pick t.d__law_pick
  m__law_pick : mg "_law_pick" = some (.ref t.f__law_pick)
  b__law_pick : Binds K t.d__law_pick ["_law_town_here", "_law_some"] []
  F__law_refusal : Fun K "_law_refusal" "_law_refusal" s__law_refusal t.f__law_refusal t.d__law_refusal
  m__law_refusal : mg "_law_refusal" = some (.ref t.f__law_refusal)
  b__law_refusal : Binds K t.d__law_refusal ["_law_caught"] []
  F__law_made : Fun K "_law_made" "_law_made" s__law_made t.f__law_made t.d__law_made
  m__law_made : mg "_law_made" = some (.ref t.f__law_made)
  b__law_made : Binds K t.d__law_made ["_law_purse", "_law_begin", "_law_crew", "_law_some"] []
  F__law_asked : Fun K "_law_asked" "_law_asked" s__law_asked t.f__law_asked t.d__law_asked
  m__law_asked : mg "_law_asked" = some (.ref t.f__law_asked)
  b__law_asked : Binds K t.d__law_asked ["_law_shutet", "_law_kind", "_law_one", "_law_two"] []
  F_law : Fun K "law" "law" s_law t.f_law t.d_law
  m_law : mg "law" = some (.ref t.f_law)
  b_law : Binds K t.d_law ["_law_script"] []
  c_MOST_MUCH : ∃ tk, mg "MOST_MUCH" = some (.int 1000 tk)
  c_LAST_NUMBER : ∃ tk, mg "LAST_NUMBER" = some (.int 99 tk)
  c_MOST_FIRST_SUM : ∃ tk, mg "MOST_FIRST_SUM" = some (.int 1000 tk)
  c_LEAST_PURSES : ∃ tk, mg "LEAST_PURSES" = some (.int 2 tk)
  c_MOST_HOUSES : ∃ tk, mg "MOST_HOUSES" = some (.int 16 tk)
  c_MOST_FEW : ∃ tk, mg "MOST_FEW" = some (.int 5 tk)
  m_Wallet : mg "Wallet" = some (.ref t.a_Wallet)
  cl_Wallet : Cls K t.a_Wallet
  na_Wallet_purse : NoAttr K t.a_Wallet "purse"
  na_Wallet_purses : NoAttr K t.a_Wallet "purses"
  na_Wallet_houses : NoAttr K t.a_Wallet "houses"
  na_Wallet_few : NoAttr K t.a_Wallet "few"
  na_Wallet_first : NoAttr K t.a_Wallet "first"
  na_Wallet_own : NoAttr K t.a_Wallet "own"
  na_Wallet_brought : NoAttr K t.a_Wallet "brought"
  m_TooMuch : mg "TooMuch" = some (.ref t.a_TooMuch)
  m_BadNumber : mg "BadNumber" = some (.ref t.a_BadNumber)
  m_NoPurse : mg "NoPurse" = some (.ref t.a_NoPurse)
  m_BadPaper : mg "BadPaper" = some (.ref t.a_BadPaper)
  m_BadHouses : mg "BadHouses" = some (.ref t.a_BadHouses)
  m_PurseError : mg "PurseError" = some (.ref t.a_PurseError)
  m_BadCut : mg "BadCut" = some (.ref t.a_BadCut)
  m_BadText : mg "BadText" = some (.ref t.a_BadText)
  m_NotNow : mg "NotNow" = some (.ref t.a_NotNow)
  m_NoHouse : mg "NoHouse" = some (.ref t.a_NoHouse)
  m_NoLetter : mg "NoLetter" = some (.ref t.a_NoLetter)
  m_BadOrder : mg "BadOrder" = some (.ref t.a_BadOrder)
  x_TooMuch : XCls K t.a_TooMuch
  xi_TooMuch : XIs K t.a_TooMuch
  xk_TooMuch : kinds K (.ref t.a_TooMuch) (asked t) = [some false, some false, some false, some false, some false, some false, some false, some true, some false, some false, some false, some true, some true]
  xc_TooMuch_PurseError : PySem.W.kitCls K (.ref t.a_TooMuch) (.ref t.a_PurseError) = some true
  xc_TooMuch_NoPurse : PySem.W.kitCls K (.ref t.a_TooMuch) (.ref t.a_NoPurse) = some false
  x_BadNumber : XCls K t.a_BadNumber
  xi_BadNumber : XIs K t.a_BadNumber
  xk_BadNumber : kinds K (.ref t.a_BadNumber) (asked t) = [some true, some false, some false, some false, some false, some false, some false, some false, some false, some false, some false, some true, some true]
  xc_BadNumber_PurseError : PySem.W.kitCls K (.ref t.a_BadNumber) (.ref t.a_PurseError) = some true
  xc_BadNumber_NoPurse : PySem.W.kitCls K (.ref t.a_BadNumber) (.ref t.a_NoPurse) = some false
  xi_NoPurse : XIs K t.a_NoPurse
  xk_NoPurse : kinds K (.ref t.a_NoPurse) (asked t) = [some false, some false, some false, some false, some true, some false, some false, some false, some false, some false, some false, some true, some true]
  xc_NoPurse_PurseError : PySem.W.kitCls K (.ref t.a_NoPurse) (.ref t.a_PurseError) = some true
  xc_NoPurse_NoPurse : PySem.W.kitCls K (.ref t.a_NoPurse) (.ref t.a_NoPurse) = some true
  x_BadPaper : XCls K t.a_BadPaper
  xi_BadPaper : XIs K t.a_BadPaper
  xk_BadPaper : kinds K (.ref t.a_BadPaper) (asked t) = [some false, some false, some false, some false, some false, some false, some false, some false, some true, some false, some false, some true, some true]
  xc_BadPaper_PurseError : PySem.W.kitCls K (.ref t.a_BadPaper) (.ref t.a_PurseError) = some true
  xc_BadPaper_NoPurse : PySem.W.kitCls K (.ref t.a_BadPaper) (.ref t.a_NoPurse) = some false
  x_BadHouses : XCls K t.a_BadHouses
  xi_BadHouses : XIs K t.a_BadHouses
  xk_BadHouses : kinds K (.ref t.a_BadHouses) (asked t) = [some false, some false, some true, some false, some false, some false, some false, some false, some false, some false, some false, some true, some true]
  xc_BadHouses_PurseError : PySem.W.kitCls K (.ref t.a_BadHouses) (.ref t.a_PurseError) = some true
  xc_BadHouses_NoPurse : PySem.W.kitCls K (.ref t.a_BadHouses) (.ref t.a_NoPurse) = some false
  be_PurseError : PySem.W.mroIn K t.a_PurseError (.type "BaseException") = some true
  be_NoPurse : PySem.W.mroIn K t.a_NoPurse (.type "BaseException") = some true
  n_isinstance : mg "isinstance" = none
  n_bool : mg "bool" = none
  n_int : mg "int" = none
  n_len : mg "len" = none
  n_tuple : mg "tuple" = none
  n_all : mg "all" = none
  n_list : mg "list" = none
  n_sum : mg "sum" = none
  n_ValueError : mg "ValueError" = none
  n_range : mg "range" = none
/-! ### the data -/
def ordV (o : O) : List V := [.int o.p, .int o.n, .int o.g, .int o.m]
def OrdAt (H : Hp) (x : V) (o : O) : Prop := ∃ a, x = .ref a ∧ H a = some (.tup (ordV o))
theorem OrdAt.same {H H' : Hp} {x : V} {o : O} (s : Same H H') (h : OrdAt H x o) : OrdAt H' x o := by
  obtain ⟨a, e, q⟩ := h
  exact ⟨a, e, s _ _ q⟩
theorem same_upd {H : Hp} {p : Addr} {o : HO} (h : H p = none) : Same H (upd H p o) := fun b u e => by rw [upd_ne (ne_of_none e h)]; exact e
theorem nd {c : Prop} [Decidable c] (h : (!decide c) = true) : ¬ c := fun z => by rw [decide_eq_true z] at h; cases h
theorem take_snoc {α : Type} {l : List α} {i : Nat} {x : α} (h : l[i]? = some x) : l.take (i + 1) = l.take i ++ [x] := by rw [List.take_add_one, h]; rfl
theorem set_map (s : List Int) (i : Nat) (z : Int) : (s.map V.int).set i (.int z) = (s.set i z).map V.int := by rw [List.map_set]
theorem get_map {s : List Int} {i : Nat} (h : i < s.length) : (s.map V.int)[i]? = some (.int (s.getD i 0)) := by
  rw [List.getElem?_map, List.getElem?_eq_getElem h, List.getD_eq_getElem?_getD, List.getElem?_eq_getElem h]
  rfl
theorem ixN_of {n : Nat} {i : Int} (h0 : 0 ≤ i) (h1 : i.toNat < n) : ixN n i = some i.toNat := by
  unfold ixN
  rw [if_pos h0, if_pos (by omega)]
theorem atI_of {α : Type} {xs : List α} {i : Int} {v : α} (h0 : 0 ≤ i) (h : xs[i.toNat]? = some v) : atI xs i = some v := by
  unfold atI
  rw [ixN_of h0 (List.getElem?_eq_some_iff.mp h).1]
  exact h
theorem tYes_intro {i : Nat} {x : V} {σ : St} {H : Hp} {F G : St → Hp → Prop} (h : F (σ.set i (some x)) H) : gName i x σ H fun σ2 H2 => tYes σ2 H2 fun b H3 => if b = true then F σ2 H3 else G σ2 H3 := iteT (A := F (σ.set i (some x)) H) (B := G (σ.set i (some x)) H) h
theorem len1000 {n : Nat} (h : n ≤ 1000) : n ≤ sizeLine := Nat.le_of_lt (small1000 h)
/-- the row of draws: the list at T holds the list at R and a count -/
def Town (T R : Addr) (H : Hp) : Prop := ∃ (row : List Int) (c : Int), H T = some (.lst [.ref R, .int c]) ∧ H R = some (.lst (row.map V.int)) ∧ 0 < row.length
/-- nothing but the row of draws has changed -/
def KeepT (T R : Addr) (H H' : Hp) : Prop := ∀ b o, H b = some o → b ≠ T → b ≠ R → H' b = some o
theorem Town.ne {T R : Addr} {H : Hp} (h : Town T R H) : T ≠ R := by
  obtain ⟨row, c, h1, h2, h3⟩ := h
  refine ne_of h1 h2 fun e => ?_
  have e' := HO.lst.inj e
  cases row with
  | nil => cases h3
  | cons x r => rw [List.map_cons] at e'; cases (List.cons.inj e').1
theorem Town.same {T R : Addr} {H H' : Hp} (h : Town T R H) (s : Same H H') : Town T R H' := by
  obtain ⟨row, c, h1, h2, h3⟩ := h
  exact ⟨row, c, s _ _ h1, s _ _ h2, h3⟩
theorem Town.fresh {T R b : Addr} {H : Hp} (h : Town T R H) (hb : H b = none) : b ≠ T ∧ b ≠ R := by
  obtain ⟨row, c, h1, h2, h3⟩ := h
  exact ⟨(ne_of_none h1 hb).symm, (ne_of_none h2 hb).symm⟩
theorem KeepT.trans {T R : Addr} {H H1 H2 : Hp} (a : KeepT T R H H1) (b : KeepT T R H1 H2) : KeepT T R H H2 := fun c o e h1 h2 => b c o (a c o e h1 h2) h1 h2
theorem KeepT.of {T R : Addr} {H H' : Hp} (s : Same H H') : KeepT T R H H' := fun b o e _ _ => s b o e
/-! ### things of any kind -/
def simple : V → Bool
  | .non => true
  | .bl _ => true
  | .int _ => true
  | .str _ => true
  | _ => false
def Thing (H : Hp) (x : V) : Prop := simple x = true ∨ ∃ a xs, x = .ref a ∧ (H a = some (.lst xs) ∨ H a = some (.tup xs))
def isI : V → Bool
  | .int _ => true
  | _ => false
def isB (x : V) (l h : Int) : Bool := match x with
  | .int i => decide (l ≤ i ∧ i ≤ h)
  | _ => false
def isOV (q : Int) (xs : List V) : Bool := match xs with
  | [p, n, g, m] => isB p 0 (q - 1) && isB g 0 (q - 1) && !decide (p = g) && isB n 0 99 && isB m 1 1000
  | _ => false
theorem isB_int {x : V} {l h : Int} (e : isB x l h = true) : ∃ i, x = .int i ∧ l ≤ i ∧ i ≤ h := by
  cases x with
  | int i => exact ⟨i, rfl, of_decide_eq_true e⟩
  | _ => cases e
/-- x is an order of q purses (b), or something else of any kind -/
def OrdIs (H : Hp) (q : Int) (x : V) (b : Bool) : Prop := (simple x = true ∧ b = false) ∨ (∃ a xs, x = .ref a ∧ H a = some (.lst xs) ∧ b = false) ∨ (∃ a xs, x = .ref a ∧ H a = some (.tup xs) ∧ (∀ y ∈ xs, Thing H y) ∧ b = isOV q xs)
theorem OrdIs.same {H H' : Hp} {q : Int} {x : V} {b : Bool} (s : Same H H') (h : OrdIs H q x b) : OrdIs H' q x b := by
  rcases h with h | ⟨a, xs, e, h, z⟩ | ⟨a, xs, e, h, k, z⟩
  · exact .inl h
  · exact .inr (.inl ⟨a, xs, e, s _ _ h, z⟩)
  · refine .inr (.inr ⟨a, xs, e, s _ _ h, fun y hy => ?_, z⟩)
    rcases k y hy with q | ⟨b, ys, e, q | q⟩
    · exact .inl q
    · exact .inr ⟨b, ys, e, .inl (s _ _ q)⟩
    · exact .inr ⟨b, ys, e, .inr (s _ _ q)⟩
/-! ### the promises -/
def sp_is_whole : Sp := fun vs H Q _ => ∃ x, vs = [x] ∧ Thing H x ∧ Q (.bl (isI x)) H
def sp_is_between : Sp := fun vs H Q _ => ∃ x l h, vs = [x, .int l, .int h] ∧ Thing H x ∧ Q (.bl (isB x l h)) H
def sp_is_order : Sp := fun vs H Q _ => ∃ x q b, vs = [x, .int q] ∧ OrdIs H q x b ∧ Q (.bl b) H
def sp_town (K : PySem.W.Frag) : Sp := fun vs H Q _ => ∃ (a : Addr) (ns : List Int), vs = [.ref a] ∧ SqL K H a (ns.map V.int) ∧ ∀ T R H', H T = none → H R = none → Same H H' → Town T R H' → Q (.ref T) H'
def sp_draw : Sp := fun vs H Q _ => ∃ (T R : Addr) (m : Int), vs = [.ref T, .int m] ∧ Town T R H ∧ 1 ≤ m ∧ m < 1073741824 ∧ ∀ d H', 0 ≤ d → d < m → Town T R H' → KeepT T R H H' → Q (.int d) H'
def sp_pick : Sp := fun vs H Q _ => ∃ (T R S : Addr) (xs : List V), vs = [.ref T, .ref S] ∧ Town T R H ∧ H S = some (.lst xs) ∧ S ≠ T ∧ S ≠ R ∧ 0 < xs.length ∧ xs.length ≤ 1000 ∧
  ∀ (i : Nat) (x : V) (H' : Hp), xs[i]? = some x → Town T R H' → KeepT T R H H' → Q x H'
/-! ### things that stay -/
/-- lists stay lists, tuples stay as they are -/
def Stay (H H' : Hp) : Prop := (∀ a xs, H a = some (.lst xs) → ∃ ys, H' a = some (.lst ys)) ∧ ∀ a xs, H a = some (.tup xs) → H' a = some (.tup xs)
theorem Stay.of {H H' : Hp} (s : Same H H') : Stay H H' := ⟨fun a xs e => ⟨xs, s _ _ e⟩, fun a xs e => s _ _ e⟩
theorem Thing.stay {H H' : Hp} {x : V} (s : Stay H H') (h : Thing H x) : Thing H' x := by
  rcases h with h | ⟨a, xs, e, h | h⟩
  · exact .inl h
  · obtain ⟨ys, h'⟩ := s.1 _ _ h
    exact .inr ⟨a, ys, e, .inl h'⟩
  · exact .inr ⟨a, xs, e, .inr (s.2 _ _ h)⟩
theorem OrdIs.stay {H H' : Hp} {q : Int} {x : V} {b : Bool} (s : Stay H H') (h : OrdIs H q x b) : OrdIs H' q x b := by
  rcases h with h | ⟨a, xs, e, h, z⟩ | ⟨a, xs, e, h, k, z⟩
  · exact .inl h
  · obtain ⟨ys, h'⟩ := s.1 _ _ h
    exact .inr (.inl ⟨a, ys, e, h', z⟩)
  · exact .inr (.inr ⟨a, xs, e, s.2 _ _ h, fun y hy => (k y hy).stay s, z⟩)
theorem ord_tup {H : Hp} {q : Int} {a : Addr} {xs : List V} {b : Bool} (h : H a = some (.tup xs)) (hx : ∀ y ∈ xs, simple y = true) (e : isOV q xs = b) : OrdIs H q (.ref a) b :=
  .inr (.inr ⟨a, xs, rfl, h, fun y hy => .inl (hx y hy), e.symm⟩)
/-! ### papers -/
def risV : List V → Int → Int → Bool
  | [], _, _ => true
  | .int i :: ys, l, b => decide (l ≤ i ∧ i ≤ b - 1) && risV ys (i + 1) b
  | _ :: _, _, _ => false
def SigIs (H : Hp) (hs fw : Int) (x : V) (b : Bool) : Prop := (simple x = true ∧ b = false) ∨ (∃ a xs, x = .ref a ∧ H a = some (.lst xs) ∧ b = false) ∨
  (∃ a xs, x = .ref a ∧ H a = some (.tup xs) ∧ (∀ y ∈ xs, Thing H y) ∧ b = (risV xs 0 hs && decide (hs - fw ≤ xs.length)))
def PapIs (H : Hp) (hs fw q : Int) (x : V) (b : Bool) : Prop := (simple x = true ∧ b = false) ∨ (∃ a xs, x = .ref a ∧ H a = some (.lst xs) ∧ b = false) ∨ (∃ a xs, x = .ref a ∧ H a = some (.tup xs) ∧ xs.length ≠ 2 ∧ b = false) ∨
  (∃ a o s c d, x = .ref a ∧ H a = some (.tup [o, s]) ∧ OrdIs H q o c ∧ SigIs H hs fw s d ∧ b = (c && d))
theorem SigIs.stay {H H' : Hp} {hs fw : Int} {x : V} {b : Bool} (s : Stay H H') (h : SigIs H hs fw x b) : SigIs H' hs fw x b := by
  rcases h with h | ⟨a, xs, e, h, z⟩ | ⟨a, xs, e, h, k, z⟩
  · exact .inl h
  · obtain ⟨ys, h'⟩ := s.1 _ _ h
    exact .inr (.inl ⟨a, ys, e, h', z⟩)
  · exact .inr (.inr ⟨a, xs, e, s.2 _ _ h, fun y hy => (k y hy).stay s, z⟩)
theorem PapIs.stay {H H' : Hp} {hs fw q : Int} {x : V} {b : Bool} (s : Stay H H') (h : PapIs H hs fw q x b) : PapIs H' hs fw q x b := by
  rcases h with h | ⟨a, xs, e, h, z⟩ | ⟨a, xs, e, h, k, z⟩ | ⟨a, o, g, c, d, e, h, k1, k2, z⟩
  · exact .inl h
  · obtain ⟨ys, h'⟩ := s.1 _ _ h
    exact .inr (.inl ⟨a, ys, e, h', z⟩)
  · exact .inr (.inr (.inl ⟨a, xs, e, s.2 _ _ h, k, z⟩))
  · exact .inr (.inr (.inr ⟨a, o, g, c, d, e, s.2 _ _ h, k1.stay s, k2.stay s, z⟩))
theorem sig_tup {H : Hp} {hs fw : Int} {a : Addr} {xs : List V} {b : Bool} (h : H a = some (.tup xs)) (hx : ∀ y ∈ xs, simple y = true) (e : (risV xs 0 hs && decide (hs - fw ≤ xs.length)) = b) : SigIs H hs fw (.ref a) b :=
  .inr (.inr ⟨a, xs, rfl, h, fun y hy => .inl (hx y hy), e.symm⟩)
theorem pap_new {H : Hp} {hs fw q : Int} {p : Addr} {o s : V} {c d : Bool} (hp : H p = none) (h1 : OrdIs H q o c) (h2 : SigIs H hs fw s d) : PapIs (upd H p (.tup [o, s])) hs fw q (.ref p) (c && d) :=
  .inr (.inr (.inr ⟨p, o, s, c, d, rfl, upd_same, h1.stay (.of (same_upd hp)), h2.stay (.of (same_upd hp)), rfl⟩))
def sp_are_rising : Sp := fun vs H Q _ => ∃ a xs b, vs = [.ref a, .int b] ∧ H a = some (.tup xs) ∧ (∀ y ∈ xs, Thing H y) ∧ Q (.bl (risV xs 0 b)) H
def sp_enough_of : Sp := fun vs H Q _ => ∃ i j, vs = [.int i, .int j] ∧ Q (.int (i - j)) H
def sp_checked : Sp := fun vs H Q _ => ∃ x hs fw q b, vs = [x, .int hs, .int fw, .int q] ∧ PapIs H hs fw q x b ∧ Q (.bl b) H
def sp_law (K : PySem.W.Frag) : Sp := fun vs H Q _ => ∃ (a : Addr) (ns : List Int), vs = [.ref a] ∧ SqL K H a (ns.map V.int) ∧ ns.length ≤ 63 ∧ ∀ H', Q (.bl true) H'
theorem hasDs_strs (K : PySem.W.Frag) (H : Hp) : ∀ ws : List Str, HasDs K H (ws.map Dt.str) (ws.map V.str)
  | [] => by rw [List.map_nil, List.map_nil, HasDs]
  | n :: ns => by
    rw [List.map_cons, List.map_cons, HasDs]
    exact ⟨_, _, rfl, by rw [HasD], hasDs_strs K H ns⟩
theorem hasD_listS {K : PySem.W.Frag} {H : Hp} {a : Addr} {ws : List Str} (h : SqL K H a (ws.map V.str)) : HasD K H (.lst (ws.map Dt.str)) (.ref a) := by
  rw [HasD]
  exact ⟨a, _, rfl, h, hasDs_strs K H ws⟩
section
variable {P : Program} {w : World} {K : PySem.W.Frag} {mg : Str → Option Value} {base : Heap} {t : Ad}
theorem ok_is_whole (T : Txt K mg t) : FnOk P w K mg base CX0 1 t.f_is_whole t.d_is_whole ["thing"] sp_is_whole := by
  refine T.F_is_whole.ok sc_is_whole (fun vs H Q E h => ?_) (fun cdv A outer s H vs Q E hr h => ?_)
  · obtain ⟨i, rfl, _⟩ := h
    rfl
  · obtain ⟨x, rfl, th, q⟩ := h
    refine ⟨_, (@pss_one _ _ _ (ps_ret (pe_and (pe_callB call_isinst rfl T.n_isinstance boot_isinstance (@pa_2 _ _ _ _ _ (pv 0) (pe_bltn (v := .ty "int") rfl T.n_int boot_int rfl) rfl rfl)) (pe_one (pe_not (pe_callB call_isinst rfl T.n_isinstance boot_isinstance (@pa_2 _ _ _ _ _ (pv 0) (pe_bltn (v := .ty "bool") rfl T.n_bool boot_bool rfl) rfl rfl))))))), ?_⟩
    rcases th with z | ⟨a, xs, rfl, e | e⟩
    · cases x with
      | non => exact ⟨_, rfl, _, _, _, false, rfl, .non, rfl, _, rfl, iteF q⟩
      | bl b => exact ⟨_, rfl, _, _, _, true, rfl, .bl _, rfl, _, rfl, iteT ⟨_, rfl, _, _, _, true, rfl, .bl _, rfl, _, rfl, q⟩⟩
      | int i => exact ⟨_, rfl, _, _, _, true, rfl, .int _, rfl, _, rfl, iteT ⟨_, rfl, _, _, _, false, rfl, .int _, rfl, _, rfl, q⟩⟩
      | str i => exact ⟨_, rfl, _, _, _, false, rfl, .str _, rfl, _, rfl, iteF q⟩
      | _ => cases z
    · exact ⟨_, rfl, _, _, _, false, rfl, .lst e, rfl, _, rfl, iteF q⟩
    · exact ⟨_, rfl, _, _, _, false, rfl, .tup e, rfl, _, rfl, iteF q⟩
theorem isB_no {x : V} {l h : Int} (e : isI x = false) : isB x l h = false := by cases x <;> first | rfl | cases e
theorem ok_is_between (T : Txt K mg t) : FnOk P w K mg base CX0 2 t.f_is_between t.d_is_between ["thing", "low", "high"] sp_is_between := by
  refine T.F_is_between.ok sc_is_between (fun vs H Q E h => ?_) (fun cdv A outer s H vs Q E hr h => ?_)
  · obtain ⟨i, l, h, rfl, _⟩ := h
    rfl
  · obtain ⟨x, l, u, rfl, th, q⟩ := h
    refine ⟨_, (@pss_one _ _ _ (ps_ret (pe_and (pe_call (ok_is_whole T) (hr.mono (by decide)) rfl T.m_is_whole T.F_is_whole.kp T.b_is_whole .nil pass0 (pa_more (pv 0) pa_nil)) (pe_one (pe_chain op_le op_le (pv 1) (pv 0) (pv 2)))))), ?_⟩
    refine ⟨_, rfl, x, rfl, th, _, rfl, ?_⟩
    cases hx : isI x with
    | false =>
      rw [isB_no hx] at q
      exact iteF q
    | true =>
      cases x with
      | int i =>
        refine iteT ?_
        refine ⟨_, rfl, _, rfl, _, _, rfl, rfl, _, rfl, ?_⟩
        have q' : Q (.bl (decide (l ≤ i ∧ i ≤ u))) H := q
        refine ite2 (fun h1 => ?_) (fun h1 => ?_)
        · refine ⟨_, rfl, _, _, rfl, rfl, ?_⟩
          have e : decide (l ≤ i ∧ i ≤ u) = decide (i ≤ u) := by
            have h1' := of_decide_eq_true h1
            simp [h1']
          rw [e] at q'
          exact q'
        · have e : decide (l ≤ i ∧ i ≤ u) = false := by
            have h1' : ¬ l ≤ i := fun z => h1 (decide_eq_true z)
            simp [h1']
          rw [e] at q'
          exact q'
      | _ => cases hx
theorem ok_is_order (T : Txt K mg t) : FnOk P w K mg base CX0 3 t.f_is_order t.d_is_order ["thing", "purses"] sp_is_order := by
  refine T.F_is_order.ok sc_is_order (fun vs H Q E h => ?_) (fun cdv A outer s H vs Q E hr h => ?_)
  · obtain ⟨a, o, q, rfl, _⟩ := h
    rfl
  · obtain ⟨x, q, b, rfl, hx, k⟩ := h
    refine ⟨_, (@pss_cons _ _ _ _ _ (ps_if (PW.pt (pw_or (pt_not (pt_val (pe_callB call_isinst rfl T.n_isinstance boot_isinstance (@pa_2 _ _ _ _ _ (pv 0) (pe_bltn (v := .ty "tuple") rfl T.n_tuple boot_tuple rfl) rfl rfl)))) (pw_or1 (pt_cmpR op_ne (pe_callB call_len_seq rfl T.n_len boot_len (pa_more (pv 0) pa_nil)) pe_int (nomark _))))) (@pss_one _ _ _ (ps_ret pe_bl)) pss_nil)
      (@pss_cons _ _ _ _ _ (ps_asg (pv 0) (pg_tup rfl (pgs_cons (pg_name (i := 2) sc_is_order.nd rfl (Or.inl rfl)) (pgs_cons (pg_name (i := 3) sc_is_order.nd rfl (Or.inl rfl)) (pgs_cons (pg_name (i := 4) sc_is_order.nd rfl (Or.inl rfl)) (pgs_cons (pg_name (i := 5) sc_is_order.nd rfl (Or.inl rfl)) pgs_nil))))))
      (@pss_cons _ _ _ _ _ (ps_if (PW.pt (pw_or (pt_not (pt_val (pe_call (ok_is_between T) (hr.mono (by decide)) rfl T.m_is_between T.F_is_between.kp T.b_is_between .nil pass0 (@pa_3 _ _ _ _ _ _ _ (pv 2) pe_int (pe_op op_sub (pv 1) pe_int) rfl rfl rfl)))) (pw_or1 (pt_not (pt_val (pe_call (ok_is_between T) (hr.mono (by decide)) rfl T.m_is_between T.F_is_between.kp T.b_is_between .nil pass0 (@pa_3 _ _ _ _ _ _ _ (pv 4) pe_int (pe_op op_sub (pv 1) pe_int) rfl rfl rfl))))))) (@pss_one _ _ _ (ps_ret pe_bl)) pss_nil)
      (@pss_one _ _ _ (ps_ret (pe_and (pe_cmpR op_ne (pv 2) (pv 4) (nomark _)) (pe_and (pe_call (ok_is_between T) (hr.mono (by decide)) rfl T.m_is_between T.F_is_between.kp T.b_is_between .nil pass0 (@pa_3 _ _ _ _ _ _ _ (pv 3) pe_int (pe_glob (v := .int 99) rfl T.c_LAST_NUMBER.choose_spec ⟨_, rfl⟩) rfl rfl rfl)) (pe_one (pe_call (ok_is_between T) (hr.mono (by decide)) rfl T.m_is_between T.F_is_between.kp T.b_is_between .nil pass0 (@pa_3 _ _ _ _ _ _ _ (pv 5) pe_int (pe_glob (v := .int 1000) rfl T.c_MOST_MUCH.choose_spec ⟨_, rfl⟩) rfl rfl rfl)))))))))), ?_⟩
    rcases hx with ⟨z, rfl⟩ | ⟨a, xs, rfl, e, rfl⟩ | ⟨a, xs, rfl, e, th, rfl⟩
    · cases x with
      | non => exact ⟨_, rfl, _, _, _, false, rfl, .non, rfl, _, rfl, iteT k⟩
      | bl b => exact ⟨_, rfl, _, _, _, false, rfl, .bl _, rfl, _, rfl, iteT k⟩
      | int i => exact ⟨_, rfl, _, _, _, false, rfl, .int _, rfl, _, rfl, iteT k⟩
      | str i => exact ⟨_, rfl, _, _, _, false, rfl, .str _, rfl, _, rfl, iteT k⟩
      | _ => cases z
    · exact ⟨_, rfl, _, _, _, false, rfl, .lst e, rfl, _, rfl, iteT k⟩
    · refine ⟨_, rfl, _, _, _, true, rfl, .tup e, rfl, _, rfl, iteF ?_⟩
      refine ⟨_, rfl, a, xs, rfl, .inr (SqT.of e), ?_⟩
      by_cases hl : xs.length = 4
      · match xs, hl with
        | [p, n, g, m], _ =>
          refine ⟨rfl, _, rfl, iteF ?_⟩
          refine ⟨_, rfl, a, _, rfl, SqT.of e, rfl, _, _, rfl, _, _, rfl, _, _, rfl, _, _, rfl, rfl, ?_⟩
          have tp := th p (by simp)
          have tn := th n (by simp)
          have tg := th g (by simp)
          have tm := th m (by simp)
          have fin : ∀ b, b = isOV q [p, n, g, m] → Q (.bl b) H := fun b e => e ▸ k
          refine ⟨_, rfl, _, rfl, _, _, rfl, rfl, _, _, _, rfl, tp, _, rfl, ?_⟩
          cases h1 : isB p 0 (q - 1) with
          | false => exact iteT (fin _ (by simp [isOV, h1]))
          | true =>
            refine iteF ?_
            refine ⟨_, rfl, _, rfl, _, _, rfl, rfl, _, _, _, rfl, tg, _, rfl, ?_⟩
            cases h2 : isB g 0 (q - 1) with
            | false => exact iteT (fin _ (by simp [isOV, h2]))
            | true =>
              refine iteF ?_
              obtain ⟨i, rfl, _, _⟩ := isB_int h1
              obtain ⟨j, rfl, _, _⟩ := isB_int h2
              refine ⟨_, rfl, _, rfl, rfl, _, rfl, ?_⟩
              refine ite2 (fun h3 => ?_) (fun h3 => fin _ ?_)
              · have z3 : ¬ i = j := by simpa using h3
                refine ⟨_, rfl, _, _, _, rfl, tn, _, rfl, ?_⟩
                cases h4 : isB n 0 99 with
                | false => exact iteF (fin _ (by simp [isOV, h4]))
                | true => exact iteT ⟨_, rfl, _, _, _, rfl, tm, fin _ (by simp [isOV, h1, h2, h4, z3])⟩
              · have z3 : i = j := by simpa using h3
                simp [isOV, z3]
      · have e0 : isOV q xs = false := by
          unfold isOV
          split
          · exact absurd rfl hl
          · rfl
        rw [e0] at k
        have hl' : ¬ (xs.length : Int) = 4 := by omega
        refine ⟨rfl, _, rfl, ?_⟩
        refine ite2 (fun _ => k) (fun h1 => ?_)
        exact absurd (by simpa using h1) hl'
theorem ok_are_rising (T : Txt K mg t) : FnOk P w K mg base CX0 3 t.f_are_rising t.d_are_rising ["things", "bound"] sp_are_rising := by
  refine T.F_are_rising.ok sc_are_rising (fun vs H Q E h => ?_) (fun cdv A outer s H vs Q E hr h => ?_)
  · obtain ⟨a, xs, b, rfl, _⟩ := h
    rfl
  · obtain ⟨a, xs, b, rfl, ha, th, k⟩ := h
    refine ⟨_, (@pss_cons _ _ _ _ _ (ps_set (i := 2) sc_are_rising.nd rfl (Or.inl rfl) pe_int)
      (@pss_cons _ _ _ _ _ (ps_for PassesOwn.never rfl (@pi_tup _ _ _ _ (pv 0)) (pg_name (i := 3) sc_are_rising.nd rfl (Or.inl rfl)) (@pss_cons _ _ _ _ _ (ps_if (pt_not (pt_val (pe_call (ok_is_between T) (hr.mono (by decide)) rfl T.m_is_between T.F_is_between.kp T.b_is_between .nil pass0 (@pa_3 _ _ _ _ _ _ _ (pv 3) (pv 2) (pe_op op_sub (pv 1) pe_int) rfl rfl rfl)))) (@pss_one _ _ _ (ps_ret pe_bl)) pss_nil)
      (@pss_one _ _ _ (ps_set (i := 2) sc_are_rising.nd rfl (Or.inl rfl) (pe_op op_add (pv 3) pe_int)))))
      (@pss_one _ _ _ (ps_ret pe_bl)))), ?_⟩
    refine ⟨_, rfl, a, rfl, ⟨_, SqT.of ha⟩, for_tup (K := K) (a := a) (xs := xs) (fun i σ H' => ∃ l v, σ = [some (.ref a), some (.int b), some (.int l), v] ∧ H' = H ∧ risV xs 0 b = risV (xs.drop i) l b)
      ⟨0, none, rfl, rfl, rfl⟩ (fun i σ H' _ ⟨_, _, _, e, _⟩ => e ▸ SqT.of ha) ?_ ?_⟩
    · rintro i x σ H' hx ⟨l, v, rfl, rfl, e⟩
      have hd : xs.drop i = x :: xs.drop (i + 1) := by
        obtain ⟨hi, rfl⟩ := List.getElem?_eq_some_iff.mp hx
        exact List.drop_eq_getElem_cons hi
      rw [hd] at e
      refine ⟨_, rfl, _, rfl, _, rfl, _, _, rfl, rfl, _, _, _, rfl, th x (List.mem_of_getElem? hx), _, rfl, ?_⟩
      cases hb : isB x l (b - 1) with
      | false =>
        have e0 : risV xs 0 b = false := by
          rw [e]
          cases x with
          | int j => rw [risV, show decide (l ≤ j ∧ j ≤ b - 1) = false from hb]; rfl
          | _ => simp [risV]
        rw [e0] at k
        exact iteT k
      | true =>
        obtain ⟨j, rfl, h1, h2⟩ := isB_int hb
        refine iteF ?_
        refine ⟨_, rfl, _, _, rfl, rfl, j + 1, _, rfl, rfl, ?_⟩
        rw [e, risV, decide_eq_true (⟨h1, h2⟩ : l ≤ j ∧ j ≤ b - 1), Bool.true_and]
    · rintro σ H' ⟨l, v, rfl, rfl, e⟩
      rw [List.drop_length, risV] at e
      rw [e] at k
      exact k
theorem ok_enough_of (T : Txt K mg t) : FnOk P w K mg base CX0 1 t.f_enough_of t.d_enough_of ["houses", "few"] sp_enough_of := by
  refine T.F_enough_of.ok sc_enough_of (fun vs H Q E h => ?_) (fun cdv A outer s H vs Q E hr h => ?_)
  · obtain ⟨i, j, rfl, _⟩ := h
    rfl
  · obtain ⟨i, j, rfl, q⟩ := h
    refine ⟨_, (@pss_one _ _ _ (ps_ret (pe_op op_sub (pv 0) (pv 1)))), ?_⟩
    exact ⟨_, rfl, _, rfl, _, _, rfl, rfl, q⟩
theorem ok_checked (T : Txt K mg t) : FnOk P w K mg base CX0 5 t.f_checked t.d_checked ["paper", "houses", "few", "purses"] sp_checked := by
  refine T.F_checked.ok sc_checked (fun vs H Q E h => ?_) (fun cdv A outer s H vs Q E hr h => ?_)
  · obtain ⟨x, hs, fw, q, b, rfl, _⟩ := h
    rfl
  · obtain ⟨x, hs, fw, q, b, rfl, hx, k⟩ := h
    refine ⟨_, (@pss_cons _ _ _ _ _ (ps_if (PW.pt (pw_or (pt_not (pt_val (pe_callB call_isinst rfl T.n_isinstance boot_isinstance (@pa_2 _ _ _ _ _ (pv 0) (pe_bltn (v := .ty "tuple") rfl T.n_tuple boot_tuple rfl) rfl rfl)))) (pw_or1 (pt_cmpR op_ne (pe_callB call_len_seq rfl T.n_len boot_len (pa_more (pv 0) pa_nil)) pe_int (nomark _))))) (@pss_one _ _ _ (ps_ret pe_bl)) pss_nil)
      (@pss_cons _ _ _ _ _ (ps_asg (pv 0) (pg_tup rfl (pgs_cons (pg_name (i := 4) sc_checked.nd rfl (Or.inl rfl)) (pgs_cons (pg_name (i := 5) sc_checked.nd rfl (Or.inl rfl)) pgs_nil))))
      (@pss_cons _ _ _ _ _ (ps_if (PW.pt (pw_or (pt_not (pt_val (pe_callK (ok_is_order T) (hr.mono (by decide)) rfl T.m_is_order T.F_is_order.kp T.bk0_is_order pass0 (pa_more (pv 4) pa_nil) (pk_cons (pv 3) pk_nil)))) (pw_or1 (pt_not (pt_val (pe_callB call_isinst rfl T.n_isinstance boot_isinstance (@pa_2 _ _ _ _ _ (pv 5) (pe_bltn (v := .ty "tuple") rfl T.n_tuple boot_tuple rfl) rfl rfl))))))) (@pss_one _ _ _ (ps_ret pe_bl)) pss_nil)
      (@pss_one _ _ _ (ps_ret (pe_and (pe_call (ok_are_rising T) (hr.mono (by decide)) rfl T.m_are_rising T.F_are_rising.kp T.b_are_rising .nil pass0 (@pa_2 _ _ _ _ _ (pv 5) (pv 1) rfl rfl)) (pe_one (pe_cmpR op_ge (pe_callB call_len_seq rfl T.n_len boot_len (pa_more (pv 5) pa_nil)) (pe_callK (ok_enough_of T) (hr.mono (by decide)) rfl T.m_enough_of T.F_enough_of.kp T.bk0_enough_of pass0 (pa_more (pv 1) pa_nil) (pk_cons (pv 2) pk_nil)) (nomark _))))))))), ?_⟩
    rcases hx with ⟨z, rfl⟩ | ⟨a, xs, rfl, e, rfl⟩ | ⟨a, xs, rfl, e, ne, rfl⟩ | ⟨a, o, s, c, d, rfl, e, ho, hs', rfl⟩
    · cases x with
      | non => exact ⟨_, rfl, _, _, _, false, rfl, .non, rfl, _, rfl, iteT k⟩
      | bl b => exact ⟨_, rfl, _, _, _, false, rfl, .bl _, rfl, _, rfl, iteT k⟩
      | int i => exact ⟨_, rfl, _, _, _, false, rfl, .int _, rfl, _, rfl, iteT k⟩
      | str i => exact ⟨_, rfl, _, _, _, false, rfl, .str _, rfl, _, rfl, iteT k⟩
      | _ => cases z
    · exact ⟨_, rfl, _, _, _, false, rfl, .lst e, rfl, _, rfl, iteT k⟩
    · refine ⟨_, rfl, _, _, _, true, rfl, .tup e, rfl, _, rfl, iteF ?_⟩
      refine ⟨_, rfl, a, xs, rfl, .inr (SqT.of e), rfl, _, rfl, ?_⟩
      have hl' : ¬ (xs.length : Int) = 2 := by omega
      refine ite2 (fun _ => k) (fun h1 => ?_)
      exact absurd (by simpa using h1) hl'
    · refine ⟨_, rfl, _, _, _, true, rfl, .tup e, rfl, _, rfl, iteF ?_⟩
      refine ⟨_, rfl, a, [o, s], rfl, .inr (SqT.of e), rfl, _, rfl, iteF ?_⟩
      refine ⟨_, rfl, a, _, rfl, SqT.of e, rfl, _, _, rfl, _, _, rfl, rfl, ?_⟩
      refine ⟨_, rfl, _, rfl, o, q, c, rfl, ho, _, rfl, ?_⟩
      cases c with
      | false => exact iteT k
      | true =>
        refine iteF ?_
        rw [Bool.true_and] at k
        rcases hs' with ⟨z, rfl⟩ | ⟨b, ys, rfl, e2, rfl⟩ | ⟨b, ys, rfl, e2, th, rfl⟩
        · cases s with
          | non => exact ⟨_, rfl, _, _, _, false, rfl, .non, rfl, _, rfl, iteT k⟩
          | bl b => exact ⟨_, rfl, _, _, _, false, rfl, .bl _, rfl, _, rfl, iteT k⟩
          | int i => exact ⟨_, rfl, _, _, _, false, rfl, .int _, rfl, _, rfl, iteT k⟩
          | str i => exact ⟨_, rfl, _, _, _, false, rfl, .str _, rfl, _, rfl, iteT k⟩
          | _ => cases z
        · exact ⟨_, rfl, _, _, _, false, rfl, .lst e2, rfl, _, rfl, iteT k⟩
        · refine ⟨_, rfl, _, _, _, true, rfl, .tup e2, rfl, _, rfl, iteF ?_⟩
          refine ⟨_, rfl, _, rfl, b, ys, hs, rfl, e2, th, _, rfl, ?_⟩
          cases hr : risV ys 0 hs with
          | false =>
            rw [hr, Bool.false_and] at k
            exact iteF k
          | true =>
            rw [hr, Bool.true_and] at k
            refine iteT ?_
            exact ⟨_, rfl, b, ys, rfl, .inr (SqT.of e2), _, rfl, _, rfl, hs, fw, rfl, _, _, rfl, rfl, k⟩
def SumIs1 (H : Hp) (y : V) (b : Bool) : Prop := (simple y = true ∧ b = false) ∨ (∃ a xs, y = .ref a ∧ H a = some (.tup xs) ∧ b = false) ∨
  (∃ a xs, y = .ref a ∧ H a = some (.lst xs) ∧ xs.length ≤ 1000 ∧ (∀ z ∈ xs, simple z = true) ∧ b = (decide (2 ≤ xs.length) && xs.all fun z => isB z 0 1000))
def sp_sums1 : Sp := fun vs H Q _ => ∃ y b, vs = [y] ∧ SumIs1 H y b ∧ ∀ H', Same H H' → Q (.bl b) H'
theorem ok_are_sums (T : Txt K mg t) : FnOk P w K mg base CX0 3 t.f_are_sums t.d_are_sums ["thing"] sp_sums1 := by
  refine T.F_are_sums.ok sc_are_sums (fun vs H Q E h => ?_) (fun cdv A outer s H vs Q E hr h => ?_)
  · obtain ⟨y, b, rfl, _⟩ := h
    rfl
  · obtain ⟨y, b, rfl, hy, k⟩ := h
    refine ⟨_, (@pss_cons _ _ _ _ _ (ps_if (PW.pt (pw_or (pt_not (pt_val (pe_callB call_isinst rfl T.n_isinstance boot_isinstance (@pa_2 _ _ _ _ _ (pv 0) (pe_bltn (v := .ty "list") rfl T.n_list boot_list rfl) rfl rfl)))) (pw_or1 (pt_cmpR op_lt (pe_callB call_len_seq rfl T.n_len boot_len (pa_more (pv 0) pa_nil)) (pe_glob (v := .int 2) rfl T.c_LEAST_PURSES.choose_spec ⟨_, rfl⟩) (nomark _))))) (@pss_one _ _ _ (ps_ret pe_bl)) pss_nil)
      (@pss_one _ _ _ (ps_ret (pe_callB (call_all rfl) rfl T.n_all boot_all (pa_more (pe_lcomp (N' := ["each"]) (ix := [none]) (compOk_is (by kernel_rfl)) rfl (@pi_list _ _ _ _ (pv 0)) (fun _ _ _ _ => (pg_name (i := 0) nd_0 rfl (Or.inl rfl) (.inr rfl))) (fun _ _ _ _ => pif_nil) (fun _ _ _ _ => (pe_call (ok_is_between T) (hr.mono (by decide)) rfl T.m_is_between T.F_is_between.kp T.b_is_between .nil pass0 (@pa_3 _ _ _ _ _ _ _ (pv 0) pe_int (pe_glob (v := .int 1000) rfl T.c_MOST_FIRST_SUM.choose_spec ⟨_, rfl⟩) rfl rfl rfl)))) pa_nil))))), ?_⟩
    rcases hy with ⟨z, rfl⟩ | ⟨a, xs, rfl, e, rfl⟩ | ⟨a, xs, rfl, e, hl, hs, rfl⟩
    · cases y with
      | non => exact ⟨_, rfl, _, _, _, false, rfl, .non, rfl, _, rfl, iteT (k _ (Same.refl _))⟩
      | bl b => exact ⟨_, rfl, _, _, _, false, rfl, .bl _, rfl, _, rfl, iteT (k _ (Same.refl _))⟩
      | int i => exact ⟨_, rfl, _, _, _, false, rfl, .int _, rfl, _, rfl, iteT (k _ (Same.refl _))⟩
      | str i => exact ⟨_, rfl, _, _, _, false, rfl, .str _, rfl, _, rfl, iteT (k _ (Same.refl _))⟩
      | _ => cases z
    · exact ⟨_, rfl, _, _, _, false, rfl, .tup e, rfl, _, rfl, iteT (k _ (Same.refl _))⟩
    · refine ⟨_, rfl, _, _, _, true, rfl, .lst e, rfl, _, rfl, iteF ?_⟩
      have fin : ∀ b, b = (decide (2 ≤ xs.length) && xs.all fun z => isB z 0 1000) → ∀ H', Same H H' → Q (.bl b) H' := fun b e => e ▸ k
      refine ⟨_, rfl, a, xs, rfl, .inl (SqL.of e), _, _, rfl, rfl, _, rfl, ?_⟩
      refine ite2 (fun h1 => fin _ ?_ _ (Same.refl _)) (fun h1 => ?_)
      · have h1' : ¬ 2 ≤ xs.length := by have := of_decide_eq_true h1; omega
        rw [decide_eq_false h1', Bool.false_and]
      · have h1' : 2 ≤ xs.length := by
          have : ¬ (xs.length : Int) < 2 := fun z => h1 (decide_eq_true z)
          omega
        refine ⟨_, rfl, a, rfl, ⟨xs, SqL.of e⟩, lc_list (K := K) (a := a) (xs := xs) (fun i ys σ' H' => ∃ v, σ' = [v] ∧ H' = H ∧ ys = ((xs.map fun z => isB z 0 1000).take i).map V.bl) ⟨none, rfl, rfl, rfl⟩ ?_ ?_ ?_⟩
        · rintro i ys σ' H' hi ⟨v, rfl, rfl, rfl⟩
          refine ⟨SqL.of e, len1000 ?_⟩
          rw [List.length_map, List.length_take, List.length_map]
          omega
        · rintro i x ys σ' H' hx ⟨v, rfl, rfl, rfl⟩
          refine tYes_intro ?_
          refine ⟨_, rfl, _, _, _, rfl, .inl (hs x (List.mem_of_getElem? hx)), _, rfl, rfl, ?_⟩
          have eb : (xs.map fun z => isB z 0 1000)[i]? = some (isB x 0 1000) := by rw [List.getElem?_map, hx]; rfl
          rw [take_snoc eb, List.map_append]
          rfl
        · rintro ys σ' H' ⟨v, rfl, rfl, rfl⟩ p hp
          refine ⟨p, (xs.map fun z => isB z 0 1000), rfl, SqL.of ?_, fin _ ?_ _ (same_upd hp)⟩
          · rw [upd_same]
            have el : (xs.map fun z => isB z 0 1000).take xs.length = xs.map fun z => isB z 0 1000 := by
              have := List.take_length (l := xs.map fun z => isB z 0 1000)
              rwa [List.length_map] at this
            rw [el]
          · rw [decide_eq_true h1', Bool.true_and, List.all_map]
            rfl
/-! ### wallets -/
theorem ok_is_house_count (T : Txt K mg t) : FnOk P w K mg base CX0 3 t.f_is_house_count t.d_is_house_count ["thing"] (fun vs H Q _ => ∃ x, vs = [x] ∧ Thing H x ∧ Q (.bl (isB x 1 16)) H) := by
  refine T.F_is_house_count.ok sc_is_house_count (fun vs H Q E h => ?_) (fun cdv A outer s H vs Q E hr h => ?_)
  · obtain ⟨x, rfl, _⟩ := h
    rfl
  · obtain ⟨x, rfl, th, k⟩ := h
    refine ⟨_, (@pss_one _ _ _ (ps_ret (pe_call (ok_is_between T) (hr.mono (by decide)) rfl T.m_is_between T.F_is_between.kp T.b_is_between .nil pass0 (@pa_3 _ _ _ _ _ _ _ (pv 0) pe_int (pe_glob (v := .int 16) rfl T.c_MOST_HOUSES.choose_spec ⟨_, rfl⟩) rfl rfl rfl)))), ?_⟩
    exact ⟨_, rfl, x, 1, 16, rfl, th, k⟩
theorem ok_is_few (T : Txt K mg t) : FnOk P w K mg base CX0 3 t.f_is_few t.d_is_few ["thing"] (fun vs H Q _ => ∃ x, vs = [x] ∧ Thing H x ∧ Q (.bl (isB x 0 5)) H) := by
  refine T.F_is_few.ok sc_is_few (fun vs H Q E h => ?_) (fun cdv A outer s H vs Q E hr h => ?_)
  · obtain ⟨x, rfl, _⟩ := h
    rfl
  · obtain ⟨x, rfl, th, k⟩ := h
    refine ⟨_, (@pss_one _ _ _ (ps_ret (pe_call (ok_is_between T) (hr.mono (by decide)) rfl T.m_is_between T.F_is_between.kp T.b_is_between .nil pass0 (@pa_3 _ _ _ _ _ _ _ (pv 0) pe_int (pe_glob (v := .int 5) rfl T.c_MOST_FEW.choose_spec ⟨_, rfl⟩) rfl rfl rfl)))), ?_⟩
    exact ⟨_, rfl, x, 0, 5, rfl, th, k⟩
theorem ok_NoPurse___init__ (T : Txt K mg t) : FnOk P w K mg base CX0 1 t.f_NoPurse___init__ t.d_NoPurse___init__ ["self", "purse"] (fun vs H Q _ => ∃ x v, vs = [.ref x, v] ∧ H x = some (IsExc0 x t.a_NoPurse) ∧ ∀ d, H d = none → Q .non (upd (upd H x (IsExc1 x t.a_NoPurse d)) d (.xd [("purse", v)]))) := by
  refine T.F_NoPurse___init__.ok sc_NoPurse___init__ (fun vs H Q E h => ?_) (fun cdv A outer s H vs Q E hr h => ?_)
  · obtain ⟨x, v, rfl, _⟩ := h
    rfl
  · obtain ⟨x, v, rfl, hx, k⟩ := h
    refine ⟨_, (@pss_one _ _ _ (ps_xset T.xin_NoPurse rfl (pv 0) (pv 1) rfl)), ?_⟩
    exact ⟨_, rfl, _, rfl, x, rfl, hx, k⟩
theorem ok_put_new (T : Txt K mg t) : FnOk P w K mg base CX0 1 t.f_put_new t.d_put_new ["papers", "key", "paper"] (fun vs H Q _ => ∃ O k v kvs, vs = [.ref O, .int k, v] ∧ H O = some (.dK kvs) ∧ valV kvs (.inl k) = none ∧ kvs.length ≤ 1000 ∧ Q (.bl true) (upd H O (.dK (kvs ++ [(.inl k, v)])))) := by
  refine T.F_put_new.ok sc_put_new (fun vs H Q E h => ?_) (fun cdv A outer s H vs Q E hr h => ?_)
  · obtain ⟨O, k, v, kvs, rfl, _⟩ := h
    rfl
  · obtain ⟨O, k, v, kvs, rfl, hO, hv, l, q⟩ := h
    refine ⟨_, (@pss_cons _ _ _ _ _ (ps_if (pt_cmp (pc_din (hu_of hr) (pv 1) (pv 0))) (@pss_one _ _ _ (ps_ret pe_bl)) pss_nil)
      (@pss_cons _ _ _ _ _ (ps_dput (hu_of hr) (pv 0) (pv 1) (pv 2) rfl)
      (@pss_one _ _ _ (ps_ret pe_bl)))), ?_⟩
    refine ⟨_, rfl, _, rfl, O, none, rfl, .inl ⟨kvs, .inl k, .inl hO, rfl, hv.symm⟩, _, rfl, iteF ?_⟩
    refine ⟨_, rfl, _, rfl, _, rfl, O, _, rfl, DPut.k (k := .inl k) hO (small1000 l), ?_⟩
    rw [putK_new _ hv]
    exact q
/-- the papers that a wallet holds under their numbers -/
def PapsAt (H : Hp) (kvs : List (Key × V)) (os : List O) : Prop := Paired (fun kv o => ∃ p q s, kv.2 = .ref p ∧ H p = some (.tup [.ref q, s]) ∧ H q = some (.tup (ordV o))) kvs os
theorem PapsAt.same {H H' : Hp} {kvs : List (Key × V)} {os : List O} (s : Same H H') (h : PapsAt H kvs os) : PapsAt H' kvs os := Paired.mapP h fun _ _ ⟨p, q, x, e, h1, h2⟩ => ⟨p, q, x, e, s _ _ h1, s _ _ h2⟩
theorem lc_vK {a : Addr} {o : Obj} {kvs : List (Key × V)} {g : TG} {ti : TT} {te : TE} {σ0 : St} {H0 : Hp} {Q : VK} (Pv : Nat → List V → St → Hp → Prop) (h0 : Pv 0 [] σ0 H0)
    (hl : ∀ i ys σ H, i ≤ kvs.length → Pv i ys σ H → H a = some (.frz o (.dK kvs)) ∧ ys.length ≤ sizeLine)
    (hs : ∀ i kv ys σ H, kvs[i]? = some kv → Pv i ys σ H → g kv.2 σ H fun σ2 H2 => ti σ2 H2 fun c H3 => if c = true then te σ2 H3 fun y H4 => Pv (i + 1) (ys ++ [y]) σ2 H4 else Pv (i + 1) ys σ2 H3)
    (hd : ∀ ys σ H, Pv kvs.length ys σ H → ∀ p, H p = none → Q (.ref p) (upd H p (.lst ys))) :
    ∃ W : Nat → Nat → List V → St → Hp → Prop, (∃ m, W 0 m [] σ0 H0) ∧ ∀ i m ys σ H, W i m ys σ H →
      ys.length ≤ sizeLine ∧ (((Itv a o kvs).stop i H ∧ lcEnd Q ys H) ∨
        ((Itv a o kvs).go i H ∧ ∃ N : List V → St → Hp → Prop, (∀ ys' σ' H', N ys' σ' H' → ∃ m', m' < m ∧ W (i + 1) m' ys' σ' H') ∧
          ∀ x H', (Itv a o kvs).yld i H x H' → g x σ H' fun σ2 H2 => ti σ2 H2 fun b H3 => if b = true then te σ2 H3 fun y H4 => N (ys ++ [y]) σ2 H4 else N ys σ2 H3)) := by
  refine ⟨fun i m ys σ H => m = kvs.length - i ∧ i ≤ kvs.length ∧ Pv i ys σ H, ⟨kvs.length, by simp, Nat.zero_le _, h0⟩, ?_⟩
  rintro i m ys σ H ⟨rfl, hi, p⟩
  obtain ⟨q, hz⟩ := hl i ys σ H hi p
  refine ⟨hz, ?_⟩
  by_cases hlt : i < kvs.length
  · refine .inr ⟨⟨hlt, q⟩, Pv (i + 1), fun ys' σ' H' p' => ⟨kvs.length - (i + 1), by omega, rfl, hlt, p'⟩, fun x H' y => ?_⟩
    obtain ⟨e, kv, ek, ex⟩ := y
    subst e ex
    exact hs i kv ys σ _ ek p
  · have e : i = kvs.length := by omega
    subst e
    exact .inl ⟨⟨Nat.le_refl _, q⟩, hd ys σ H p⟩
theorem ok_sum_of (T : Txt K mg t) : FnOk P w K mg base CX0 2 t.f_sum_of t.d_sum_of ["papers"] (fun vs H Q _ => ∃ D kvs os, vs = [.ref D] ∧ H D = some (.dK kvs) ∧ PapsAt H kvs os ∧ os.length ≤ 100 ∧ ∀ H', Same H H' → Q (.int (os.map fun o : O => o.m).sum) H') := by
  refine T.F_sum_of.ok sc_sum_of (fun vs H Q E h => ?_) (fun cdv A outer s H vs Q E hr h => ?_)
  · obtain ⟨D, kvs, os, rfl, _⟩ := h
    rfl
  · obtain ⟨D, kvs, os, rfl, hD, pa, l, k⟩ := h
    refine ⟨_, (@pss_one _ _ _ (ps_ret (pe_callB (call_sum rfl) rfl T.n_sum boot_sum (pa_more (pe_thaw (pe_lcomp (N' := ["order", "signers"]) (ix := [none, none]) (compOk_is (by kernel_rfl)) rfl (pi_vK (pe_bm0 PySem.F.plainAttrs_dict PySem.F.slot_dict_values PySem.F.type_dict_values mt_values (pv 0))) (fun _ _ _ _ => (pg_tupK (K := K) (t := (gCons (gName 0) (gCons (gName 1) gNil))) rfl rfl 2 (pgs_cons (pg_name (i := 0) nd_1 rfl (Or.inl rfl) (.inr rfl)) (pgs_cons (pg_name (i := 1) nd_1 rfl (Or.inl rfl) (.inr rfl)) pgs_nil)) rfl rfl)) (fun _ _ _ _ => pif_nil) (fun _ _ _ _ => (pe_ix (ix_tupK (K := K) rfl) (pv 0) pe_int (fun _ _ => rfl))))) pa_nil)))), ?_⟩
    have len : kvs.length = os.length := Paired.length pa
    refine ⟨_, rfl, .inr (.inr (.inl ⟨rfl, .inl ⟨_, hD⟩⟩)), D, kvs, rfl, rfl, hD, fun vw hvw => ?_⟩
    have sv := same_upd (o := ViewV vw D) hvw
    have hD1 := sv _ _ hD
    have pa1 := pa.same sv
    have gv : upd H vw (ViewV vw D) vw = some (ViewV vw D) := upd_same
    generalize upd H vw (ViewV vw D) = H1 at sv hD1 pa1 gv
    have keep : ∀ {o : Obj} {b : Addr} {u : HO}, H1 b = some u → (∀ ks, u ≠ .dK ks) → upd H1 D (.frz o (.dK kvs)) b = some u := fun {o b u} e hu => by
      rw [upd_ne (ne_of e hD1 (hu _))]
      exact e
    refine ⟨vw, D, kvs, rfl, gv, hD1, fun o => lc_vK (fun i ys σ H' => ∃ v0 v1, σ = [v0, v1] ∧ Same (upd H1 D (.frz o (.dK kvs))) H' ∧ ys = ((os.take i).map fun o : O => o.m).map V.int) ⟨none, none, rfl, Same.refl _, rfl⟩ ?_ ?_ ?_⟩
    · rintro i ys σ H' hi ⟨v0, v1, rfl, sm, rfl⟩
      refine ⟨sm _ _ upd_same, len1000 ?_⟩
      rw [List.length_map, List.length_map, List.length_take]
      omega
    · rintro i kv ys σ H' ek ⟨v0, v1, rfl, sm, rfl⟩
      obtain ⟨u, eu, p, q, x, e1, e2, e3⟩ := paired_get pa1 ek
      rw [e1]
      have hp : H' p = some (.tup [.ref q, x]) := sm _ _ (keep e2 fun _ z => by cases z)
      have hq : H' q = some (.tup (ordV u)) := sm _ _ (keep e3 fun _ z => by cases z)
      refine ⟨p, _, rfl, SqT.of hp, rfl, _, _, rfl, _, _, rfl, rfl, ?_⟩
      dsimp only [tYes]
      rw [if_pos rfl]
      refine ⟨_, rfl, q, ordV u, 3, .int u.m, rfl, rfl, SqT.of hq, rfl, _, _, rfl, sm, ?_⟩
      rw [take_snoc eu, List.map_append, List.map_append]
      rfl
    · rintro ys σ H' ⟨v0, v1, rfl, sm, rfl⟩ r hr
      rw [len, List.take_length]
      have hD' := sm _ _ (upd_same (H := H1) (a := D) (o := .frz o (.dK kvs)))
      have rD : r ≠ D := (ne_of_none hD' hr).symm
      refine ⟨D, o, .dK kvs, (by rw [upd_ne rD.symm]; exact hD'), fun o' u' z => ?_, True.intro, r, os.map fun o : O => o.m, rfl, SqL.of (by rw [upd_ne rD]; exact upd_same), k _ fun c u hc => ?_⟩
      · have z' : H D = some (.frz o' u') := z
        rw [hD] at z'
        cases z'
      · have h1 := sv _ _ hc
        by_cases z : c = D
        · subst z
          rw [hD1] at h1
          rw [upd_same, h1]
        · have hc' : H' c = some u := sm _ _ (by rw [upd_ne z]; exact h1)
          rw [upd_ne z, upd_ne (ne_of_none hc' hr)]
          exact hc'
def wf (pu n hs fw fi : Int) (Ow B : Addr) : List (Str × V) := putF "brought" (.ref B) (putF "own" (.ref Ow) (putF "first" (.int fi) (putF "few" (.int fw) (putF "houses" (.int hs) (putF "purses" (.int n) (putF "purse" (.int pu) []))))))
theorem wf_purse (pu n hs fw fi : Int) (Ow B : Addr) : (wf pu n hs fw fi Ow B).lookup ("purse" : Str) = some (.int pu) := by
  unfold wf
  repeat (first | rw [lookup_putF, if_pos rfl] | rw [lookup_putF, if_neg (by decide +kernel)])
theorem wf_purses (pu n hs fw fi : Int) (Ow B : Addr) : (wf pu n hs fw fi Ow B).lookup ("purses" : Str) = some (.int n) := by
  unfold wf
  repeat (first | rw [lookup_putF, if_pos rfl] | rw [lookup_putF, if_neg (by decide +kernel)])
theorem wf_houses (pu n hs fw fi : Int) (Ow B : Addr) : (wf pu n hs fw fi Ow B).lookup ("houses" : Str) = some (.int hs) := by
  unfold wf
  repeat (first | rw [lookup_putF, if_pos rfl] | rw [lookup_putF, if_neg (by decide +kernel)])
theorem wf_few (pu n hs fw fi : Int) (Ow B : Addr) : (wf pu n hs fw fi Ow B).lookup ("few" : Str) = some (.int fw) := by
  unfold wf
  repeat (first | rw [lookup_putF, if_pos rfl] | rw [lookup_putF, if_neg (by decide +kernel)])
theorem wf_first (pu n hs fw fi : Int) (Ow B : Addr) : (wf pu n hs fw fi Ow B).lookup ("first" : Str) = some (.int fi) := by
  unfold wf
  repeat (first | rw [lookup_putF, if_pos rfl] | rw [lookup_putF, if_neg (by decide +kernel)])
theorem wf_own (pu n hs fw fi : Int) (Ow B : Addr) : (wf pu n hs fw fi Ow B).lookup ("own" : Str) = some (.ref Ow) := by
  unfold wf
  repeat (first | rw [lookup_putF, if_pos rfl] | rw [lookup_putF, if_neg (by decide +kernel)])
theorem wf_brought (pu n hs fw fi : Int) (Ow B : Addr) : (wf pu n hs fw fi Ow B).lookup ("brought" : Str) = some (.ref B) := by
  unfold wf
  repeat (first | rw [lookup_putF, if_pos rfl] | rw [lookup_putF, if_neg (by decide +kernel)])
theorem wf_no (pu n hs fw fi : Int) (Ow B : Addr) {m : Str} (h : ¬ m = "brought" ∧ ¬ m = "own" ∧ ¬ m = "first" ∧ ¬ m = "few" ∧ ¬ m = "houses" ∧ ¬ m = "purses" ∧ ¬ m = "purse") : (wf pu n hs fw fi Ow B).lookup m = none := by
  obtain ⟨h1, h2, h3, h4, h5, h6, h7⟩ := h
  unfold wf
  rw [lookup_putF, if_neg h1, lookup_putF, if_neg h2, lookup_putF, if_neg h3, lookup_putF, if_neg h4, lookup_putF, if_neg h5, lookup_putF, if_neg h6, lookup_putF, if_neg h7]
  rfl
structure WalAt (t : Ad) (H : Hp) (x dx : Addr) (pu n hs fw fi : Int) (Ow B : Addr) (kvs : List (Key × V)) (os : List O) : Prop where
  ob : H x = some (.ins t.a_Wallet dx (wf pu n hs fw fi Ow B))
  own : H Ow = some (.dK kvs)
  bro : H B = some (.dK [])
  pa : PapsAt H kvs os
  ne : Ow ≠ B
theorem WalAt.same {t : Ad} {H H' : Hp} {x dx : Addr} {pu n hs fw fi : Int} {Ow B : Addr} {kvs : List (Key × V)} {os : List O} (s : Same H H') (W : WalAt t H x dx pu n hs fw fi Ow B kvs os) : WalAt t H' x dx pu n hs fw fi Ow B kvs os :=
  ⟨s _ _ W.ob, s _ _ W.own, s _ _ W.bro, W.pa.same s, W.ne⟩
theorem ok_Wallet_has (T : Txt K mg t) : FnOk P w K mg base CX0 3 t.f_Wallet_has t.d_Wallet_has ["self"] (fun vs H Q _ => ∃ x dx pu n hs fw fi Ow B kvs os, vs = [.ref x] ∧ WalAt t H x dx pu n hs fw fi Ow B kvs os ∧ os.length ≤ 100 ∧ ∀ H', Same H H' → Q (.int (fi - (os.map fun o : O => o.m).sum)) H') := by
  refine T.F_Wallet_has.ok sc_Wallet_has (fun vs H Q E h => ?_) (fun cdv A outer s H vs Q E hr h => ?_)
  · obtain ⟨x, dx, pu, n, hs, fw, fi, Ow, B, kvs, os, rfl, _⟩ := h
    rfl
  · obtain ⟨x, dx, pu, n, hs, fw, fi, Ow, B, kvs, os, rfl, W, l, k⟩ := h
    refine ⟨_, (@pss_one _ _ _ (ps_ret (pe_op op_sub (pe_op op_add (pe_fld (pv 0) rfl) (pe_call (ok_sum_of T) (hr.mono (by decide)) rfl T.m_sum_of T.F_sum_of.kp T.b_sum_of .nil pass0 (pa_more (pe_fld (pv 0) rfl) pa_nil))) (pe_call (ok_sum_of T) (hr.mono (by decide)) rfl T.m_sum_of T.F_sum_of.kp T.b_sum_of .nil pass0 (pa_more (pe_fld (pv 0) rfl) pa_nil))))), ?_⟩
    refine ⟨_, rfl, x, _, dx, _, _, rfl, W.ob, T.cl_Wallet, T.na_Wallet_first, wf_first _ _ _ _ _ _ _, _, rfl, x, _, dx, _, _, rfl, W.ob, T.cl_Wallet, T.na_Wallet_brought, wf_brought _ _ _ _ _ _ _, B, [], [], rfl, W.bro, .nil, by decide, fun H1 s1 => ?_⟩
    have W1 := W.same s1
    refine ⟨_, _, rfl, rfl, _, rfl, x, _, dx, _, _, rfl, W1.ob, T.cl_Wallet, T.na_Wallet_own, wf_own _ _ _ _ _ _ _, Ow, kvs, os, rfl, W1.own, W1.pa, l, fun H2 s2 => ⟨_, _, rfl, rfl, ?_⟩⟩
    have := k H2 (s1.trans s2)
    have e : fi + (([] : List O).map fun o : O => o.m).sum - (os.map fun o : O => o.m).sum = fi - (os.map fun o : O => o.m).sum := by
      show fi + 0 - _ = _
      omega
    rw [← e] at this
    exact this
theorem ok_Wallet_next_number (T : Txt K mg t) : FnOk P w K mg base CX0 1 t.f_Wallet_next_number t.d_Wallet_next_number ["self"] (fun vs H Q _ => ∃ x dx pu n hs fw fi Ow B kvs os m, vs = [.ref x] ∧ WalAt t H x dx pu n hs fw fi Ow B kvs os ∧ 0 ≤ m ∧ (∀ i : Int, (valV kvs (.inl i)).isSome = decide (0 ≤ i ∧ i < m)) ∧ Q (.int m) H) := by
  refine T.F_Wallet_next_number.ok sc_Wallet_next_number (fun vs H Q E h => ?_) (fun cdv A outer s H vs Q E hr h => ?_)
  · obtain ⟨x, dx, pu, n, hs, fw, fi, Ow, B, kvs, os, m, rfl, _⟩ := h
    rfl
  · obtain ⟨x, dx, pu, n, hs, fw, fi, Ow, B, kvs, os, m, rfl, W, m0, hm, k⟩ := h
    refine ⟨_, (@pss_cons _ _ _ _ _ (ps_set (i := 1) sc_Wallet_next_number.nd rfl (Or.inl rfl) pe_int)
      (@pss_cons _ _ _ _ _ (ps_while PassesOwn.never (pt_cmp (pc_din (hu_of hr) (pv 1) (pe_fld (pv 0) rfl))) (@pss_one _ _ _ (ps_aug (i := 1) sc_Wallet_next_number.nd rfl (Or.inl rfl) pe_int ip_add)))
      (@pss_one _ _ _ (ps_ret (pv 1))))), ?_⟩
    refine while_by (fun σ H' => ∃ i : Int, σ = [some (.ref x), some (.int i)] ∧ H' = H ∧ 0 ≤ i ∧ i ≤ m) (fun σ _ => match σ with | [_, some (.int i)] => (m - i).toNat | _ => 0) ⟨0, rfl, rfl, by decide, m0⟩ ?_ ?_
    · rintro σ H' ⟨i, rfl, rfl, i0, im⟩
      refine ⟨_, rfl, _, rfl, x, _, dx, _, _, rfl, W.ob, T.cl_Wallet, T.na_Wallet_own, wf_own _ _ _ _ _ _ _, Ow, _, rfl, .inl ⟨kvs, .inl i, .inl W.own, rfl, rfl⟩, _, rfl, ?_⟩
      rw [hm i]
      refine ite2 (fun z => ?_) (fun z => ?_)
      · have lt := (of_decide_eq_true z).2
        refine ⟨_, rfl, _, _, rfl, rfl, ⟨i + 1, rfl, rfl, by omega, by omega⟩, ?_⟩
        show (m - (i + 1)).toNat < (m - i).toNat
        omega
      · have e : i = m := by
          have : ¬ (0 ≤ i ∧ i < m) := fun y => z (decide_eq_true y)
          omega
        subst e
        exact ⟨_, rfl, k⟩
    · intro σ H Q Q' hQ h
      obtain ⟨v, e1, u, e2, a, C, dx, fs, w, q1, q2, q3, q4, q5, b, o, q6, q7, c, q8, q9⟩ := h
      exact ⟨v, e1, u, e2, a, C, dx, fs, w, q1, q2, q3, q4, q5, b, o, q6, q7, c, q8, hQ _ _ q9⟩
theorem xdrop {H : Hp} {ea d : Addr} {X Y Z : HO} (h : H ea = none) (hd : upd H ea X d = none) : H d = none ∧ upd (upd (upd H ea X) ea Y) d Z ea = some Y ∧ Same H (fun b => if b = ea then none else upd (upd (upd H ea X) ea Y) d Z b) ∧ (fun b => if b = ea then none else upd (upd (upd H ea X) ea Y) d Z b) d = some Z := by
  have n1 : d ≠ ea := fun z => by
    rw [z, upd_same] at hd
    cases hd
  have n2 : H d = none := by rw [upd_ne n1] at hd; exact hd
  refine ⟨n2, by rw [upd_ne (Ne.symm n1), upd_same], fun b u e => ?_, ?_⟩
  · have be := ne_of_none e h
    show (if b = ea then none else upd (upd (upd H ea X) ea Y) d Z b) = some u
    rw [if_neg be, upd_ne (ne_of_none e n2), upd_ne be, upd_ne be]
    exact e
  · show (if d = ea then none else upd (upd (upd H ea X) ea Y) d Z d) = some Z
    rw [if_neg n1, upd_same]
/-- an order that a wallet refuses -/
def sp_worder (t : Ad) : Sp := fun vs H _ E => ∃ x dx pu n hs fw fi Ow B kvs os g m, vs = [.ref x, g, m] ∧ WalAt t H x dx pu n hs fw fi Ow B kvs os ∧ os.length ≤ 100 ∧ Thing H g ∧ Thing H m ∧
  ((isB g 0 (n - 1) = false ∨ g = .int pu) → ∀ d H', Same H H' → H' d = some (.xd [("purse", g)]) → E (.ref t.a_NoPurse) (some d) H') ∧
  (isB g 0 (n - 1) = true → g ≠ .int pu → (isB m 1 1000 = false → E (.ref t.a_BadNumber) none H) ∧ (isB m 1 1000 = true → ∃ i, m = .int i ∧ fi - (os.map fun o : O => o.m).sum < i ∧ ∀ H', Same H H' → E (.ref t.a_TooMuch) none H'))
theorem ok_Wallet_order (T : Txt K mg t) : FnOk P w K mg base (CX2 P w) 4 t.f_Wallet_order t.d_Wallet_order ["self", "goal", "much"] (sp_worder t) := by
  refine T.F_Wallet_order.okY sc_Wallet_order (fun vs H Q E h => ?_) (fun cdv A outer s H vs Q E hr h => ?_)
  · obtain ⟨x, dx, pu, n, hs, fw, fi, Ow, B, kvs, os, g, m, rfl, _⟩ := h
    rfl
  · obtain ⟨x, dx, pu, n, hs, fw, fi, Ow, B, kvs, os, g, m, rfl, W, l, tg, tm, e1, e2⟩ := h
    refine ⟨_, (@pss_cons _ _ _ _ _ (ps_if (PW.pt (pw_or (pt_not (pt_val (pe_call (ok_is_between T) (hr.mono (by decide)) rfl T.m_is_between T.F_is_between.kp T.b_is_between .nil pass0 (@pa_3 _ _ _ _ _ _ _ (pv 1) pe_int (pe_op op_sub (pe_fld (pv 0) rfl) pe_int) rfl rfl rfl)))) (pw_or1 (pt_cmpR op_eq (pv 1) (pe_fld (pv 0) rfl) (nomark _))))) (@pss_one _ _ _ (ps_raiseJ rfl T.m_NoPurse T.xin_NoPurse (ok_NoPurse___init__ T) (hr.mono (by decide)) T.b_NoPurse___init__ (pa_more (pv 1) pa_nil))) pss_nil)
      (@pss_cons _ _ _ _ _ (ps_if (pt_not (pt_val (pe_call (ok_is_between T) (hr.mono (by decide)) rfl T.m_is_between T.F_is_between.kp T.b_is_between .nil pass0 (@pa_3 _ _ _ _ _ _ _ (pv 2) pe_int (pe_glob (v := .int 1000) rfl T.c_MOST_MUCH.choose_spec ⟨_, rfl⟩) rfl rfl rfl)))) (@pss_one _ _ _ (ps_raise2 rfl T.m_BadNumber T.x_BadNumber (pa_more pe_str pa_nil))) pss_nil)
      (@pss_cons _ _ _ _ _ (ps_if (pt_cmpR op_gt (pv 2) (pe_meth0 (pv 0) T.cl_Wallet T.mt_Wallet_has (ok_Wallet_has T) (hr.mono (by decide)) T.b_Wallet_has .nil pass0) (nomark _)) (@pss_one _ _ _ (ps_raise2 rfl T.m_TooMuch T.x_TooMuch (pa_more pe_str pa_nil))) pss_nil)
      (@pss_one _ _ _ (ps_ret (@pe_tup _ _ _ _ _ (@pa_4 _ _ _ _ _ _ _ _ _ (pe_fld (pv 0) rfl) (pe_meth0 (pv 0) T.cl_Wallet T.mt_Wallet_next_number (ok_Wallet_next_number T) (hr.mono (by decide)) T.b_Wallet_next_number .nil pass0) (pv 1) (pv 2) rfl rfl rfl rfl))))))), ?_⟩
    refine ⟨_, rfl, _, rfl, x, _, dx, _, _, rfl, W.ob, T.cl_Wallet, T.na_Wallet_purses, wf_purses _ _ _ _ _ _ _, _, _, rfl, rfl, g, 0, n - 1, rfl, tg, _, rfl, ?_⟩
    have rz : (isB g 0 (n - 1) = false ∨ g = .int pu) → ∀ ea, H ea = none → ∃ x v, [V.ref ea, g] = [V.ref x, v] ∧ upd H ea (IsExc0 ea t.a_NoPurse) x = some (IsExc0 x t.a_NoPurse) ∧ ∀ d, upd H ea (IsExc0 ea t.a_NoPurse) d = none → V.non = .non ∧ ∃ d', upd (upd (upd H ea (IsExc0 ea t.a_NoPurse)) x (IsExc1 x t.a_NoPurse d)) d (.xd [("purse", v)]) ea = some (IsExc1 ea t.a_NoPurse d') ∧ E (.ref t.a_NoPurse) (some d') (fun b => if b = ea then none else upd (upd (upd H ea (IsExc0 ea t.a_NoPurse)) x (IsExc1 x t.a_NoPurse d)) d (.xd [("purse", v)]) b) := fun z ea hea => by
      refine ⟨ea, g, rfl, upd_same, fun d hd => ?_⟩
      obtain ⟨g1, g2, g3, g4⟩ := xdrop (Y := IsExc1 ea t.a_NoPurse d) (Z := .xd [("purse", g)]) hea hd
      exact ⟨rfl, d, g2, e1 z d _ g3 g4⟩
    cases hb : isB g 0 (n - 1) with
    | false => exact iteT (iteT ⟨_, rfl, (by show 1 ≤ sizeLine; decide), rz (.inl hb)⟩)
    | true =>
      refine iteF ?_
      obtain ⟨i, rfl, i0, i1⟩ := isB_int hb
      refine ⟨_, rfl, _, rfl, x, _, dx, _, _, rfl, W.ob, T.cl_Wallet, T.na_Wallet_purse, wf_purse _ _ _ _ _ _ _, rfl, _, rfl, ite2 (fun z => ?_) (fun z => ?_)⟩
      · exact ⟨_, rfl, (by show 1 ≤ sizeLine; decide), rz (.inr (of_decide_eq_true z))⟩
      obtain ⟨f1, f2⟩ := e2 hb fun y => z (decide_eq_true y)
      refine ⟨_, rfl, m, 1, 1000, rfl, tm, _, rfl, ?_⟩
      cases hm : isB m 1 1000 with
      | false => exact iteT ⟨(by show 1 ≤ sizeLine; decide), f1 hm⟩
      | true =>
        refine iteF ?_
        obtain ⟨k, rfl, k1, k2⟩ := f2 hm
        refine ⟨_, rfl, _, rfl, x, dx, _, rfl, W.ob, wf_no _ _ _ _ _ _ _ (by decide +kernel), x, dx, pu, n, hs, fw, fi, Ow, B, kvs, os, rfl, W, l, fun H1 s1 => ⟨_, _, rfl, rfl, _, rfl, ?_⟩⟩
        rw [show decide (k > fi - (os.map fun o : O => o.m).sum) = true from decide_eq_true k1]
        exact iteT ⟨(by show 1 ≤ sizeLine; decide), k2 _ s1⟩
def sp_wadd (t : Ad) : Sp := fun vs H Q E => ∃ x dx pu n hs fw fi Ow B kvs os p b, vs = [.ref x, p] ∧ WalAt t H x dx pu n hs fw fi Ow B kvs os ∧ PapIs H hs fw n p b ∧ (b = false → E (.ref t.a_BadPaper) none H) ∧
  (b = true → ∃ pp q s o, p = .ref pp ∧ H pp = some (.tup [.ref q, s]) ∧ H q = some (.tup (ordV o)) ∧ o.p = pu ∧ valV kvs (.inl o.n) = none ∧ kvs.length ≤ 1000 ∧ Q (.bl true) (upd H Ow (.dK (kvs ++ [(.inl o.n, .ref pp)]))))
theorem ok_Wallet_add (T : Txt K mg t) : FnOk P w K mg base (CX2 P w) 6 t.f_Wallet_add t.d_Wallet_add ["self", "paper"] (sp_wadd t) := by
  refine T.F_Wallet_add.okY sc_Wallet_add (fun vs H Q E h => ?_) (fun cdv A outer s H vs Q E hr h => ?_)
  · obtain ⟨x, dx, pu, n, hs, fw, fi, Ow, B, kvs, os, p, b, rfl, _⟩ := h
    rfl
  · obtain ⟨x, dx, pu, n, hs, fw, fi, Ow, B, kvs, os, p, b, rfl, W, hp, e1, e2⟩ := h
    refine ⟨_, (@pss_cons _ _ _ _ _ (ps_if (pt_not (pt_val (pe_callK (ok_checked T) (hr.mono (by decide)) rfl T.m_checked T.F_checked.kp T.bk0_checked pass0 (pa_more (pv 1) pa_nil) (pk_cons (pe_fld (pv 0) rfl) (pk_cons (pe_fld (pv 0) rfl) (pk_cons (pe_fld (pv 0) rfl) pk_nil)))))) (@pss_one _ _ _ (ps_raise2 rfl T.m_BadPaper T.x_BadPaper (pa_more pe_str pa_nil))) pss_nil)
      (@pss_cons _ _ _ _ _ (ps_asg (pe_ix ix_tup (pv 1) pe_int (fun _ _ => rfl)) (pg_tup rfl (pgs_cons (pg_name (i := 2) sc_Wallet_add.nd rfl (Or.inl rfl)) (pgs_cons (pg_name (i := 3) sc_Wallet_add.nd rfl (Or.inl rfl)) (pgs_cons (pg_name (i := 4) sc_Wallet_add.nd rfl (Or.inl rfl)) (pgs_cons (pg_name (i := 5) sc_Wallet_add.nd rfl (Or.inl rfl)) pgs_nil))))))
      (@pss_cons _ _ _ _ _ (ps_if (pt_cmpR op_eq (pv 2) (pe_fld (pv 0) rfl) (nomark _)) (@pss_one _ _ _ (ps_ret (pe_call (ok_put_new T) (hr.mono (by decide)) rfl T.m_put_new T.F_put_new.kp T.b_put_new .nil pass0 (@pa_3 _ _ _ _ _ _ _ (pe_fld (pv 0) rfl) (pv 3) (pv 1) rfl rfl rfl)))) pss_nil)
      (@pss_cons _ _ _ _ _ (ps_if (pt_cmpR op_eq (pv 4) (pe_fld (pv 0) rfl) (nomark _)) (@pss_one _ _ _ (ps_ret (pe_call (ok_put_new T) (hr.mono (by decide)) rfl T.m_put_new T.F_put_new.kp T.b_put_new .nil pass0 (@pa_3 _ _ _ _ _ _ _ (pe_fld (pv 0) rfl) (@pe_tup _ _ _ _ _ (@pa_2 _ _ _ _ _ (pv 2) (pv 3) rfl rfl)) (pv 1) rfl rfl rfl)))) pss_nil)
      (@pss_one _ _ _ (ps_ret pe_bl)))))), ?_⟩
    refine ⟨_, rfl, _, rfl, x, _, dx, _, _, rfl, W.ob, T.cl_Wallet, T.na_Wallet_houses, wf_houses _ _ _ _ _ _ _, _, rfl, x, _, dx, _, _, rfl, W.ob, T.cl_Wallet, T.na_Wallet_few, wf_few _ _ _ _ _ _ _, _, rfl, x, _, dx, _, _, rfl, W.ob, T.cl_Wallet, T.na_Wallet_purses, wf_purses _ _ _ _ _ _ _, p, hs, fw, n, b, rfl, hp, _, rfl, ?_⟩
    cases b with
    | false => exact iteT ⟨(by show 1 ≤ sizeLine; decide), e1 rfl⟩
    | true =>
      refine iteF ?_
      obtain ⟨pp, q, sg, o, rfl, hpp, hq, op, nv, lk, k⟩ := e2 rfl
      refine ⟨_, rfl, pp, _, 0, .ref q, rfl, rfl, SqT.of hpp, rfl, q, ordV o, rfl, SqT.of hq, rfl, ?_⟩
      refine ⟨_, _, rfl, _, _, rfl, _, _, rfl, _, _, rfl, rfl, ?_⟩
      refine ⟨_, rfl, _, rfl, x, _, dx, _, _, rfl, W.ob, T.cl_Wallet, T.na_Wallet_purse, wf_purse _ _ _ _ _ _ _, rfl, _, rfl, ?_⟩
      rw [show decide (V.int o.p = V.int pu) = true from decide_eq_true (by rw [op])]
      refine iteT ?_
      exact ⟨_, rfl, x, _, dx, _, _, rfl, W.ob, T.cl_Wallet, T.na_Wallet_own, wf_own _ _ _ _ _ _ _, _, rfl, _, rfl, Ow, o.n, .ref pp, kvs, rfl, W.own, nv, lk, k⟩
def sp_winit (t : Ad) : Sp := fun vs H Q E => ∃ x dx pu ss hs fw b, vs = [.ref x, pu, ss, hs, fw] ∧ H x = some (.ins t.a_Wallet dx []) ∧ Thing H pu ∧ Thing H hs ∧ Thing H fw ∧ SumIs1 H ss b ∧ (b = false → ∀ H', Same H H' → E (.ref t.a_BadHouses) none H') ∧
  (b = true → ∃ sa xs, ss = .ref sa ∧ H sa = some (.lst xs) ∧ (∀ y ∈ xs, ∃ i, y = .int i) ∧
    (isB pu 0 ((xs.length : Int) - 1) = false → ∀ d H', Same H H' → H' d = some (.xd [("purse", pu)]) → E (.ref t.a_NoPurse) (some d) H') ∧
    (isB pu 0 ((xs.length : Int) - 1) = true → (isB hs 1 16 && isB fw 0 5) = false → ∀ H', Same H H' → E (.ref t.a_BadNumber) none H') ∧
    (isB pu 0 ((xs.length : Int) - 1) = true → (isB hs 1 16 && isB fw 0 5) = true → ∀ p h f fi, pu = .int p → hs = .int h → fw = .int f → xs[p.toNat]? = some (.int fi) → ∀ Ow B H', WalAt t H' x dx p xs.length h f fi Ow B [] [] → (∀ b u, H b = some u → b ≠ x → H' b = some u) → Q .non H'))
theorem ok_Wallet___init__ (T : Txt K mg t) : FnOk P w K mg base (CX2 P w) 4 t.f_Wallet___init__ t.d_Wallet___init__ ["self", "purse", "sums", "houses", "few"] (sp_winit t) := by
  refine T.F_Wallet___init__.okY sc_Wallet___init__ (fun vs H Q E h => ?_) (fun cdv A outer s H vs Q E hr h => ?_)
  · obtain ⟨x, dx, pu, ss, hs, fw, b, rfl, _⟩ := h
    rfl
  · obtain ⟨x, dx, pu, ss, hs, fw, b, rfl, hx, tp, th, tf, hss, e1, e2⟩ := h
    refine ⟨_, (@pss_cons _ _ _ _ _ (ps_if (pt_not (pt_val (pe_call (ok_are_sums T) (hr.mono (by decide)) rfl T.m_are_sums T.F_are_sums.kp T.b_are_sums .nil pass0 (pa_more (pv 2) pa_nil)))) (@pss_one _ _ _ (ps_raise2 rfl T.m_BadHouses T.x_BadHouses (pa_more pe_str pa_nil))) pss_nil)
      (@pss_cons _ _ _ _ _ (ps_if (pt_not (pt_val (pe_call (ok_is_between T) (hr.mono (by decide)) rfl T.m_is_between T.F_is_between.kp T.b_is_between .nil pass0 (@pa_3 _ _ _ _ _ _ _ (pv 1) pe_int (pe_op op_sub (pe_callB call_len_seq rfl T.n_len boot_len (pa_more (pv 2) pa_nil)) pe_int) rfl rfl rfl)))) (@pss_one _ _ _ (ps_raiseJ rfl T.m_NoPurse T.xin_NoPurse (ok_NoPurse___init__ T) (hr.mono (by decide)) T.b_NoPurse___init__ (pa_more (pv 1) pa_nil))) pss_nil)
      (@pss_cons _ _ _ _ _ (ps_if (PW.pt (pw_or (pt_not (pt_val (pe_call (ok_is_house_count T) (hr.mono (by decide)) rfl T.m_is_house_count T.F_is_house_count.kp T.b_is_house_count .nil pass0 (pa_more (pv 3) pa_nil)))) (pw_or1 (pt_not (pt_val (pe_call (ok_is_few T) (hr.mono (by decide)) rfl T.m_is_few T.F_is_few.kp T.b_is_few .nil pass0 (pa_more (pv 4) pa_nil))))))) (@pss_one _ _ _ (ps_raise2 rfl T.m_BadNumber T.x_BadNumber (pa_more pe_str pa_nil))) pss_nil)
      (@pss_cons _ _ _ _ _ (ps_fld (pv 0) (pv 1) rfl)
      (@pss_cons _ _ _ _ _ (ps_fld (pv 0) (pe_callB call_len_seq rfl T.n_len boot_len (pa_more (pv 2) pa_nil)) rfl)
      (@pss_cons _ _ _ _ _ (ps_fld (pv 0) (pv 3) rfl)
      (@pss_cons _ _ _ _ _ (ps_fld (pv 0) (pv 4) rfl)
      (@pss_cons _ _ _ _ _ (ps_fld (pv 0) (pe_ix ix_list (pv 2) (pv 1) (fun _ _ => rfl)) rfl)
      (@pss_cons _ _ _ _ _ (ps_fld (pv 0) pe_dnewK rfl)
      (@pss_one _ _ _ (ps_fld (pv 0) pe_dnewK rfl))))))))))), ?_⟩
    refine ⟨_, rfl, ss, b, rfl, hss, fun H1 s1 => ⟨_, rfl, ?_⟩⟩
    cases b with
    | false => exact iteT ⟨(by show 1 ≤ sizeLine; decide), e1 rfl _ s1⟩
    | true =>
      refine iteF ?_
      obtain ⟨sa, xs, rfl, hsa, ii, f1, f2, f3⟩ := e2 rfl
      have hsa1 := s1 _ _ hsa
      refine ⟨_, rfl, _, rfl, sa, xs, rfl, .inl (SqL.of hsa1), _, _, rfl, rfl, pu, 0, (xs.length : Int) - 1, rfl, tp.stay (Stay.of s1), _, rfl, ?_⟩
      cases hp : isB pu 0 ((xs.length : Int) - 1) with
      | false =>
        refine iteT ⟨_, rfl, (by show 1 ≤ sizeLine; decide), fun ea hea => ?_⟩
        refine ⟨ea, pu, rfl, upd_same, fun d hd => ?_⟩
        obtain ⟨g1, g2, g3, g4⟩ := xdrop (Y := IsExc1 ea t.a_NoPurse d) (Z := .xd [("purse", pu)]) hea hd
        exact ⟨rfl, d, g2, f1 hp d _ (s1.trans g3) g4⟩
      | true =>
        refine iteF ?_
        refine ⟨_, rfl, hs, rfl, th.stay (Stay.of s1), _, rfl, ?_⟩
        cases hh : isB hs 1 16 with
        | false => exact iteT (iteT ⟨(by show 1 ≤ sizeLine; decide), f2 hp (by rw [hh]; rfl) _ s1⟩)
        | true =>
          refine iteF ?_
          refine ⟨_, rfl, fw, rfl, tf.stay (Stay.of s1), _, rfl, ?_⟩
          cases hf : isB fw 0 5 with
          | false => exact iteT ⟨(by show 1 ≤ sizeLine; decide), f2 hp (by rw [hh, hf]; rfl) _ s1⟩
          | true =>
            refine iteF ?_
            obtain ⟨p, rfl, p0, p1⟩ := isB_int hp
            obtain ⟨hi, rfl, _, _⟩ := isB_int hh
            obtain ⟨fi, rfl, _, _⟩ := isB_int hf
            have lp : p.toNat < xs.length := by omega
            obtain ⟨v, ev⟩ : ∃ v, xs[p.toNat]? = some v := ⟨xs[p.toNat], by simp [lp]⟩
            obtain ⟨z, rfl⟩ := ii v (List.mem_of_getElem? ev)
            have k := f3 hp (by rw [hh, hf]; rfl) p hi fi z rfl rfl rfl ev
            have hx1 := s1 _ _ hx
            refine ⟨_, rfl, _, rfl, x, _, dx, _, rfl, hx1, T.cl_Wallet, T.na_Wallet_purse, (by show 0 < 1000; decide), ?_⟩
            have sx : sa ≠ x := ne_of hsa1 hx1 (by intro z; cases z)
            refine ⟨_, rfl, sa, xs, rfl, .inl (SqL.of (by rw [upd_ne sx]; exact hsa1)), _, rfl, x, _, dx, _, rfl, upd_same, T.cl_Wallet, T.na_Wallet_purses, (by show 1 < 1000; decide), ?_⟩
            rw [upd_upd]
            refine ⟨_, rfl, _, rfl, x, _, dx, _, rfl, upd_same, T.cl_Wallet, T.na_Wallet_houses, (by show 2 < 1000; decide), ?_⟩
            rw [upd_upd]
            refine ⟨_, rfl, _, rfl, x, _, dx, _, rfl, upd_same, T.cl_Wallet, T.na_Wallet_few, (by show 3 < 1000; decide), ?_⟩
            rw [upd_upd]
            refine ⟨_, rfl, _, rfl, sa, xs, p, .int z, rfl, rfl, SqL.of (by rw [upd_ne sx]; exact hsa1), atI_of p0 ev, _, rfl, x, _, dx, _, rfl, upd_same, T.cl_Wallet, T.na_Wallet_first, (by show 4 < 1000; decide), ?_⟩
            rw [upd_upd]
            refine fun Ow hOw => ?_
            have xO : x ≠ Ow := ne_of_none upd_same hOw
            have hO1 : H1 Ow = none := by rw [upd_ne (Ne.symm xO)] at hOw; exact hOw
            refine ⟨_, rfl, x, _, dx, _, rfl, (by rw [upd_ne xO, upd_same]), T.cl_Wallet, T.na_Wallet_own, (by show 5 < 1000; decide), ?_⟩
            refine fun B hB => ?_
            have xB : x ≠ B := ne_of_none upd_same hB
            have hB1 : upd (upd H1 x (.ins t.a_Wallet dx (putF "first" (.int z) (putF "few" (.int fi) (putF "houses" (.int hi) (putF "purses" (.int xs.length) (putF "purse" (.int p) []))))))) Ow (.dK []) B = none := by rw [upd_ne (Ne.symm xB)] at hB; exact hB
            have OB : Ow ≠ B := ne_of_none upd_same hB1
            have hB2 : H1 B = none := by
              rw [upd_ne (Ne.symm OB), upd_ne (Ne.symm xB)] at hB1
              exact hB1
            refine ⟨_, rfl, x, _, dx, _, rfl, (by rw [upd_ne xB, upd_same]), T.cl_Wallet, T.na_Wallet_brought, (by show 6 < 1000; decide), ?_⟩
            refine k Ow B _ ⟨upd_same, ?_, ?_, .nil, OB⟩ fun b u e bx => ?_
            · rw [upd_ne (Ne.symm xO), upd_ne OB, upd_ne (Ne.symm xO), upd_same]
            · rw [upd_ne (Ne.symm xB), upd_same]
            · have e1 := s1 _ _ e
              rw [upd_ne bx, upd_ne (ne_of_none e1 hB2), upd_ne bx, upd_ne (ne_of_none e1 hO1), upd_ne bx]
              exact e1
theorem ok__law_town (T : Txt K mg t) : FnOk P w K mg base CX0 1 t.f__law_town t.d__law_town ["_law_script"] (sp_town K) := by
  refine T.F__law_town.ok sc__law_town (fun vs H Q E h => ?_) (fun cdv A outer s H vs Q E hr h => ?_)
  · obtain ⟨a, ns, rfl, _⟩ := h
    rfl
  · obtain ⟨a, ns, rfl, ha, k⟩ := h
    refine ⟨_, (@pss_one _ _ _ (ps_ret (@pe_lst _ _ _ _ (@pa_2 _ _ _ _ _ (pe_ifExp (pt_cmpR (op_neD hr.units) (pv 0) (@pe_lst _ _ _ _ pa_nil) (nomark _)) (pe_callTy call_list_of rfl T.n_list boot_list (pa_more (pv 0) pa_nil)) (@pe_lst _ _ _ _ (pa_more pe_int pa_nil))) pe_int rfl rfl)))), ?_⟩
    refine ⟨_, rfl, (by show 0 ≤ sizeLine; decide), fun p hp => ?_⟩
    have s1 := same_upd (o := .lst []) hp
    refine ⟨.lst (ns.map Dt.int), .lst (([] : List Int).map Dt.int), hasD_listI (s1.seq ha), hasD_listI (SqL.of upd_same), dep_listI _, _, rfl, ?_⟩
    rw [eqD_listI]
    refine ite2 (fun h1 => ?_) (fun h1 => ?_)
    · have ne := nd h1
      refine ⟨_, rfl, a, _, rfl, .inl (s1.seq ha), fun R hR => ?_⟩
      refine ⟨(by show 2 ≤ sizeLine; decide), fun T' hT => ?_⟩
      have s2 := s1.trans (same_upd (o := .lst (ns.map V.int)) hR)
      have nRT : R ≠ T' := ne_of_none upd_same hT
      refine k T' R _ (s2.free hT) (s1.free hR) (s2.trans (same_upd hT)) ⟨ns, 0, upd_same, by rw [upd_ne nRT, upd_same], ?_⟩
      cases ns with
      | nil => exact absurd rfl ne
      | cons x r => exact Nat.succ_pos _
    · refine ⟨(by show 1 ≤ sizeLine; decide), fun R hR => ?_⟩
      refine ⟨(by show 2 ≤ sizeLine; decide), fun T' hT => ?_⟩
      have s2 := s1.trans (same_upd (o := .lst [.int 0]) hR)
      have nRT : R ≠ T' := ne_of_none upd_same hT
      exact k T' R _ (s2.free hT) (s1.free hR) (s2.trans (same_upd hT)) ⟨[0], 0, upd_same, by rw [upd_ne nRT, upd_same]; rfl, Nat.one_pos⟩
theorem ok__law_draw (T : Txt K mg t) : FnOk P w K mg base CX0 1 t.f__law_draw t.d__law_draw ["_law_town_here", "_law_many"] sp_draw := by
  refine T.F__law_draw.ok sc__law_draw (fun vs H Q E h => ?_) (fun cdv A outer s H vs Q E hr h => ?_)
  · obtain ⟨a, R, m, rfl, _⟩ := h
    rfl
  · obtain ⟨To, R, m, rfl, hT, m1, m2, k⟩ := h
    have nTR := hT.ne
    obtain ⟨row, c, h1, h2, h3⟩ := hT
    refine ⟨_, (@pss_cons _ _ _ _ _ (ps_set (i := 2) sc__law_draw.nd rfl (Or.inl rfl) (pe_ix ix_list (pv 0) pe_int (fun _ _ => rfl)))
      (@pss_cons _ _ _ _ _ (ps_asg (pe_op op_add (pe_ix ix_list (pv 0) pe_int (fun _ _ => rfl)) pe_int) (pg_sub (pv 0) pe_int set_list))
      (@pss_cons _ _ _ _ _ (ps_set (i := 3) sc__law_draw.nd rfl (Or.inl rfl) (pe_op op_mod (pe_ix ix_list (pv 0) pe_int (fun _ _ => rfl)) (pe_callB call_len_seq rfl T.n_len boot_len (pa_more (pv 2) pa_nil))))
      (@pss_cons _ _ _ _ _ (ps_set (i := 4) sc__law_draw.nd rfl (Or.inl rfl) (pe_ix ix_list (pv 2) (pv 3) (fun _ _ => rfl)))
      (@pss_cons _ _ _ _ _ (ps_if (pt_cmpR op_ge (pv 4) pe_int (nomark _)) (@pss_cons _ _ _ _ _ (ps_asg (pe_op op_fdiv (pv 4) (pv 1)) (pg_sub (pv 2) (pv 3) set_list))
      (@pss_one _ _ _ (ps_ret (pe_op op_mod (pv 4) (pv 1))))) pss_nil)
      (@pss_cons _ _ _ _ _ (ps_set (i := 5) sc__law_draw.nd rfl (Or.inl rfl) (pe_op op_mod (pe_op op_add (pv 4) (pe_op op_mul pe_int (pe_ix ix_list (pv 0) pe_int (fun _ _ => rfl)))) pe_int))
      (@pss_cons _ _ _ _ _ (ps_set (i := 5) sc__law_draw.nd rfl (Or.inl rfl) (pe_op op_mod (pe_op op_pow (pv 5) pe_int) pe_int))
      (@pss_one _ _ _ (ps_ret (pe_op op_mod (pe_op op_fdiv (pe_op op_mod (pe_op op_add (pe_op op_mul (pe_op op_fdiv (pv 5) pe_int) pe_int) (pv 5)) pe_int) pe_int) (pv 1))))))))))), ?_⟩
    -- the row; the count is one more
    refine ⟨_, rfl, To, _, 0, .ref R, rfl, rfl, SqL.of h1, rfl, ?_⟩
    refine ⟨_, rfl, To, _, 1, .int c, rfl, rfl, SqL.of h1, rfl, _, _, rfl, rfl, ?_⟩
    refine ⟨_, rfl, To, _, 1, 1, rfl, rfl, h1, rfl, ?_⟩
    have g1 : (upd H To (.lst ([V.ref R, V.int c].set 1 (V.int (c + 1))))) To = some (.lst [.ref R, .int (c + 1)]) := upd_same
    have g2 : (upd H To (.lst ([V.ref R, V.int c].set 1 (V.int (c + 1))))) R = some (.lst (row.map V.int)) := by rw [upd_ne nTR.symm]; exact h2
    have kp : KeepT To R H (upd H To (.lst ([V.ref R, V.int c].set 1 (V.int (c + 1))))) := fun b o e n1 _ => by rw [upd_ne n1]; exact e
    generalize upd H To (.lst ([V.ref R, V.int c].set 1 (V.int (c + 1)))) = H1 at g1 g2 kp
    -- the place, the cell
    have hl : (0 : Int) < ((row.map V.int).length : Int) := by rw [List.length_map]; omega
    refine ⟨_, rfl, To, _, 1, .int (c + 1), rfl, rfl, SqL.of g1, rfl, _, rfl, R, _, rfl, .inl (SqL.of g2), _, _, rfl, rfl, hl, ?_⟩
    rw [List.length_map] at hl ⊢
    have b0 : 0 ≤ (c + 1) % (row.length : Int) := Int.emod_nonneg _ (by omega)
    have b1 : (c + 1) % (row.length : Int) < (row.length : Int) := Int.emod_lt_of_pos _ hl
    have b2 : ((c + 1) % (row.length : Int)).toNat < row.length := by omega
    refine ⟨_, rfl, _, rfl, R, _, ((c + 1) % (row.length : Int)), _, rfl, rfl, SqL.of g2, atI_of b0 (get_map b2), ?_⟩
    refine ⟨_, rfl, _, _, rfl, rfl, _, rfl, ?_⟩
    refine ite2 (fun h5 => ?_) (fun h5 => ?_)
    · refine ⟨_, rfl, _, rfl, _, _, rfl, rfl, ⟨by omega, m2⟩, ?_⟩
      refine ⟨_, rfl, _, rfl, R, _, ((c + 1) % (row.length : Int)), _, rfl, rfl, g2, ixN_of b0 (by rw [List.length_map]; exact b2), ?_⟩
      rw [set_map]
      refine ⟨_, rfl, _, rfl, _, _, rfl, rfl, (by show (0 : Int) < m; omega), ?_⟩
      refine k _ _ (Int.emod_nonneg _ (by omega)) (Int.emod_lt_of_pos _ (by omega)) ⟨_, c + 1, by rw [upd_ne nTR]; exact g1, upd_same, by rw [List.length_set]; exact h3⟩ fun b o e n1 n2 => ?_
      rw [upd_ne n2]
      exact kp b o e n1 n2
    · have big : ∀ z : Int, (z % 4294967291).natAbs < 2 ^ 64 := fun z => by
        have u1 := Int.emod_nonneg z (show (4294967291 : Int) ≠ 0 by decide)
        have u2 := Int.emod_lt_of_pos z (show (0 : Int) < 4294967291 by decide)
        omega
      refine ⟨_, rfl, _, rfl, To, _, 1, .int (c + 1), rfl, rfl, SqL.of g1, rfl, _, _, rfl, rfl, .inl ⟨by decide, by decide⟩, _, _, rfl, rfl, _, _, rfl, rfl, (by show (0 : Int) < 4294967291; decide), ?_⟩
      refine ⟨_, rfl, _, _, rfl, rfl, ⟨by decide, by decide, big _⟩, _, _, rfl, rfl, (by show (0 : Int) < 4294967279; decide), ?_⟩
      refine ⟨_, rfl, _, _, rfl, rfl, ⟨by decide, by decide⟩, _, _, rfl, rfl, .inr ⟨by decide, by decide⟩, _, rfl, _, _, rfl, rfl, _, _, rfl, rfl, (by show (0 : Int) < 4294967231; decide), _, _, rfl, rfl, ⟨by decide, by decide⟩, _, rfl, _, _, rfl, rfl, (by show (0 : Int) < m; omega), ?_⟩
      exact k _ _ (Int.emod_nonneg _ (by omega)) (Int.emod_lt_of_pos _ (by omega)) ⟨row, c + 1, g1, g2, h3⟩ kp
theorem ok__law_pick (T : Txt K mg t) : FnOk P w K mg base CX0 2 t.f__law_pick t.d__law_pick ["_law_town_here", "_law_some"] sp_pick := by
  refine T.F__law_pick.ok sc__law_pick (fun vs H Q E h => ?_) (fun cdv A outer s H vs Q E hr h => ?_)
  · obtain ⟨a, R, S, xs, rfl, _⟩ := h
    rfl
  · obtain ⟨To, R, S, xs, rfl, hT, hS, n1, n2, l0, l1, k⟩ := h
    refine ⟨_, (@pss_one _ _ _ (ps_ret (pe_ix ix_list (pv 1) (pe_call (ok__law_draw T) (hr.mono (by decide)) rfl T.m__law_draw T.F__law_draw.kp T.b__law_draw .nil pass0 (@pa_2 _ _ _ _ _ (pv 0) (pe_callB call_len_seq rfl T.n_len boot_len (pa_more (pv 1) pa_nil)) rfl rfl)) (fun _ _ => rfl)))), ?_⟩
    refine ⟨_, rfl, _, rfl, _, rfl, S, xs, rfl, .inl (SqL.of hS), To, R, _, rfl, hT, by omega, by omega, fun d H' d0 d1 hT' kp => ?_⟩
    have hd : d.toNat < xs.length := by omega
    exact ⟨S, xs, d, xs[d.toNat], rfl, rfl, SqL.of (kp _ _ hS n1 n2), atI_of d0 (by simp [hd]), k d.toNat _ H' (by simp [hd]) hT' kp⟩
theorem kinds13 {C a0 a1 a2 a3 a4 a5 a6 a7 a8 a9 a10 a11 a12 : Value} {b0 b1 b2 b3 b4 b5 b6 b7 b8 b9 b10 b11 b12 : Bool} (h : kinds K C [a0, a1, a2, a3, a4, a5, a6, a7, a8, a9, a10, a11, a12] = [some b0, some b1, some b2, some b3, some b4, some b5, some b6, some b7, some b8, some b9, some b10, some b11, some b12]) :
    PySem.W.kitOne K C a0 = some b0 ∧ PySem.W.kitOne K C a1 = some b1 ∧ PySem.W.kitOne K C a2 = some b2 ∧ PySem.W.kitOne K C a3 = some b3 ∧ PySem.W.kitOne K C a4 = some b4 ∧ PySem.W.kitOne K C a5 = some b5 ∧ PySem.W.kitOne K C a6 = some b6 ∧ PySem.W.kitOne K C a7 = some b7 ∧
    PySem.W.kitOne K C a8 = some b8 ∧ PySem.W.kitOne K C a9 = some b9 ∧ PySem.W.kitOne K C a10 = some b10 ∧ PySem.W.kitOne K C a11 = some b11 ∧ PySem.W.kitOne K C a12 = some b12 := by
  unfold kinds at h
  simpa only [List.map_cons, List.map_nil, List.cons.injEq, and_true] using h
def words : List V := [.str "number", .str "order", .str "houses", .str "house", .str "purse", .str "letter", .str "now", .str "much", .str "paper", .str "cut", .str "text"]
/-- a caught refusal of one kind -/
def sp_refusal (K : PySem.W.Frag) (t : Ad) : Sp := fun vs H Q _ => ∃ (ea C : Addr) (b0 b1 b2 b3 b4 b5 b6 b7 b8 b9 b10 : Bool) (x : V), vs = [.ref ea] ∧ H ea = some (IsExc ea (.ref C)) ∧ XIs K C ∧
  kinds K (.ref C) (asked t) = [some b0, some b1, some b2, some b3, some b4, some b5, some b6, some b7, some b8, some b9, some b10, some true, some true] ∧ [b0, b1, b2, b3, b4, b5, b6, b7, b8, b9, b10].count true = 1 ∧
  words[[b0, b1, b2, b3, b4, b5, b6, b7, b8, b9, b10].idxOf true]? = some x ∧ ∀ H', Same H H' → Q x H'
set_option maxHeartbeats 0 in
theorem ok__law_refusal (T : Txt K mg t) : FnOk P w K mg base CX0 1 t.f__law_refusal t.d__law_refusal ["_law_caught"] (sp_refusal K t) := by
  refine T.F__law_refusal.ok sc__law_refusal (fun vs H Q E h => ?_) (fun cdv A outer s H vs Q E hr h => ?_)
  · obtain ⟨ea, C, b0, b1, b2, b3, b4, b5, b6, b7, b8, b9, b10, x, rfl, _⟩ := h
    rfl
  · obtain ⟨ea, C, b0, b1, b2, b3, b4, b5, b6, b7, b8, b9, b10, x, rfl, he, hX, hk, hc, hw, k⟩ := h
    obtain ⟨k0, k1, k2, k3, k4, k5, k6, k7, k8, k9, k10, k11, k12⟩ := kinds13 hk
    refine ⟨_, (@pss_cons _ _ _ _ _ (@ps_set _ _ 1 _ _ _ _ sc__law_refusal.nd rfl (Or.inl rfl) (@pe_lst _ _ _ _ (@pa_3 _ _ _ _ _ _ _ (pe_callB call_isexc rfl T.n_isinstance boot_isinstance (@pa_2 _ _ _ _ _ (pv 0) (pe_glob (v := .ref t.a_BadNumber) rfl T.m_BadNumber rfl) rfl rfl)) (pe_callB call_isexc rfl T.n_isinstance boot_isinstance (@pa_2 _ _ _ _ _ (pv 0) (pe_glob (v := .ref t.a_BadOrder) rfl T.m_BadOrder rfl) rfl rfl)) (pe_callB call_isexc rfl T.n_isinstance boot_isinstance (@pa_2 _ _ _ _ _ (pv 0) (pe_glob (v := .ref t.a_BadHouses) rfl T.m_BadHouses rfl) rfl rfl)) rfl rfl rfl)) (by rfl) (by first | exact .inl rfl | exact .inr rfl))
      (@pss_cons _ _ _ _ _ (ps_set (i := 1) sc__law_refusal.nd rfl (Or.inl rfl) (pe_op op_cat (pv 1) (@pe_lst _ _ _ _ (@pa_3 _ _ _ _ _ _ _ (pe_callB call_isexc rfl T.n_isinstance boot_isinstance (@pa_2 _ _ _ _ _ (pv 0) (pe_glob (v := .ref t.a_NoHouse) rfl T.m_NoHouse rfl) rfl rfl)) (pe_callB call_isexc rfl T.n_isinstance boot_isinstance (@pa_2 _ _ _ _ _ (pv 0) (pe_glob (v := .ref t.a_NoPurse) rfl T.m_NoPurse rfl) rfl rfl)) (pe_callB call_isexc rfl T.n_isinstance boot_isinstance (@pa_2 _ _ _ _ _ (pv 0) (pe_glob (v := .ref t.a_NoLetter) rfl T.m_NoLetter rfl) rfl rfl)) rfl rfl rfl))))
      (@pss_cons _ _ _ _ _ (ps_set (i := 1) sc__law_refusal.nd rfl (Or.inl rfl) (pe_op op_cat (pv 1) (@pe_lst _ _ _ _ (@pa_3 _ _ _ _ _ _ _ (pe_callB call_isexc rfl T.n_isinstance boot_isinstance (@pa_2 _ _ _ _ _ (pv 0) (pe_glob (v := .ref t.a_NotNow) rfl T.m_NotNow rfl) rfl rfl)) (pe_callB call_isexc rfl T.n_isinstance boot_isinstance (@pa_2 _ _ _ _ _ (pv 0) (pe_glob (v := .ref t.a_TooMuch) rfl T.m_TooMuch rfl) rfl rfl)) (pe_callB call_isexc rfl T.n_isinstance boot_isinstance (@pa_2 _ _ _ _ _ (pv 0) (pe_glob (v := .ref t.a_BadPaper) rfl T.m_BadPaper rfl) rfl rfl)) rfl rfl rfl))))
      (@pss_cons _ _ _ _ _ (ps_set (i := 1) sc__law_refusal.nd rfl (Or.inl rfl) (pe_op op_cat (pv 1) (@pe_lst _ _ _ _ (@pa_2 _ _ _ _ _ (pe_callB call_isexc rfl T.n_isinstance boot_isinstance (@pa_2 _ _ _ _ _ (pv 0) (pe_glob (v := .ref t.a_BadCut) rfl T.m_BadCut rfl) rfl rfl)) (pe_callB call_isexc rfl T.n_isinstance boot_isinstance (@pa_2 _ _ _ _ _ (pv 0) (pe_glob (v := .ref t.a_BadText) rfl T.m_BadText rfl) rfl rfl)) rfl rfl))))
      (@pss_cons _ _ _ _ _ (ps_if (PW.pt (pw_or (pt_cmpR op_ne (pe_bm PySem.F.plainAttrs_list PySem.F.slot_list_count PySem.F.type_list_count mt_countB (pv 1) (pa_more pe_bl pa_nil)) pe_int (nomark _)) (pw_or (pt_not (pt_val (pe_callB call_isexc rfl T.n_isinstance boot_isinstance (@pa_2 _ _ _ _ _ (pv 0) (pe_glob (v := .ref t.a_PurseError) rfl T.m_PurseError rfl) rfl rfl)))) (pw_or1 (pt_not (pt_val (pe_callB call_isexc rfl T.n_isinstance boot_isinstance (@pa_2 _ _ _ _ _ (pv 0) (pe_bltn (v := .ty "ValueError") rfl T.n_ValueError boot_ValueError rfl) rfl rfl)))))))) (@pss_one _ _ _ (ps_ret pe_str)) pss_nil)
      (@pss_cons _ _ _ _ _ (@ps_set _ _ 2 _ _ _ _ sc__law_refusal.nd rfl (Or.inl rfl) (@pe_lst _ _ _ _ (@pa_lits _ _ [.c (.str "number"), .c (.str "order"), .c (.str "houses"), .c (.str "house"), .c (.str "purse"), .c (.str "letter"), .c (.str "now"), .c (.str "much"), .c (.str "paper"), .c (.str "cut"), .c (.str "text")] rfl)) (by rfl) (by first | exact .inl rfl | exact .inr rfl))
      (@pss_one _ _ _ (ps_ret (pe_ix ix_list (pv 2) (pe_bm PySem.F.plainAttrs_list PySem.F.slot_list_index PySem.F.type_list_index mt_indexB (pv 1) (pa_more pe_bl pa_nil)) (fun _ _ => rfl)))))))))), ?_⟩
    refine ⟨_, rfl, ea, C, _, _, b0, rfl, he, hX, rfl, k0, _, rfl, ea, C, _, _, b1, rfl, he, hX, rfl, k1, _, rfl, ea, C, _, _, b2, rfl, he, hX, rfl, k2, (by show 3 ≤ sizeLine; decide), fun p1 h1 => ?_⟩
    have s1 := same_upd (o := .lst [.bl b0, .bl b1, .bl b2]) h1
    have he1 := s1 _ _ he
    refine ⟨_, rfl, _, rfl, ea, C, _, _, b3, rfl, he1, hX, rfl, k3, _, rfl, ea, C, _, _, b4, rfl, he1, hX, rfl, k4, _, rfl, ea, C, _, _, b5, rfl, he1, hX, rfl, k5, (by show 3 ≤ sizeLine; decide), fun p2 h2 => ?_⟩
    refine ⟨p1, p2, [.bl b0, .bl b1, .bl b2], [.bl b3, .bl b4, .bl b5], rfl, rfl, (by rw [upd_ne (ne_of_none upd_same h2)]; exact upd_same), upd_same, (by show 6 ≤ sizeLine; decide), fun p3 h3 => ?_⟩
    have s3 := (s1.trans (same_upd (o := .lst [.bl b3, .bl b4, .bl b5]) h2)).trans (same_upd (o := .lst ([.bl b0, .bl b1, .bl b2] ++ [.bl b3, .bl b4, .bl b5])) h3)
    have g3 : (upd (upd (upd H p1 (.lst [.bl b0, .bl b1, .bl b2])) p2 (.lst [.bl b3, .bl b4, .bl b5])) p3 (.lst ([.bl b0, .bl b1, .bl b2] ++ [.bl b3, .bl b4, .bl b5]))) p3 = some (.lst [.bl b0, .bl b1, .bl b2, .bl b3, .bl b4, .bl b5]) := upd_same
    generalize upd (upd (upd H p1 (.lst [.bl b0, .bl b1, .bl b2])) p2 (.lst [.bl b3, .bl b4, .bl b5])) p3 (.lst ([.bl b0, .bl b1, .bl b2] ++ [.bl b3, .bl b4, .bl b5])) = H3 at s3 g3
    have he3 := s3 _ _ he
    refine ⟨_, rfl, _, rfl, ea, C, _, _, b6, rfl, he3, hX, rfl, k6, _, rfl, ea, C, _, _, b7, rfl, he3, hX, rfl, k7, _, rfl, ea, C, _, _, b8, rfl, he3, hX, rfl, k8, (by show 3 ≤ sizeLine; decide), fun p4 h4 => ?_⟩
    refine ⟨p3, p4, [.bl b0, .bl b1, .bl b2, .bl b3, .bl b4, .bl b5], [.bl b6, .bl b7, .bl b8], rfl, rfl, (by rw [upd_ne (ne_of_none g3 h4)]; exact g3), upd_same, (by show 9 ≤ sizeLine; decide), fun p5 h5 => ?_⟩
    have s5 := (s3.trans (same_upd (o := .lst [.bl b6, .bl b7, .bl b8]) h4)).trans (same_upd (o := .lst ([.bl b0, .bl b1, .bl b2, .bl b3, .bl b4, .bl b5] ++ [.bl b6, .bl b7, .bl b8])) h5)
    have g5 : (upd (upd H3 p4 (.lst [.bl b6, .bl b7, .bl b8])) p5 (.lst ([.bl b0, .bl b1, .bl b2, .bl b3, .bl b4, .bl b5] ++ [.bl b6, .bl b7, .bl b8]))) p5 = some (.lst [.bl b0, .bl b1, .bl b2, .bl b3, .bl b4, .bl b5, .bl b6, .bl b7, .bl b8]) := upd_same
    generalize upd (upd H3 p4 (.lst [.bl b6, .bl b7, .bl b8])) p5 (.lst ([.bl b0, .bl b1, .bl b2, .bl b3, .bl b4, .bl b5] ++ [.bl b6, .bl b7, .bl b8])) = H5 at s5 g5
    have he5 := s5 _ _ he
    refine ⟨_, rfl, _, rfl, ea, C, _, _, b9, rfl, he5, hX, rfl, k9, _, rfl, ea, C, _, _, b10, rfl, he5, hX, rfl, k10, (by show 2 ≤ sizeLine; decide), fun p6 h6 => ?_⟩
    refine ⟨p5, p6, [.bl b0, .bl b1, .bl b2, .bl b3, .bl b4, .bl b5, .bl b6, .bl b7, .bl b8], [.bl b9, .bl b10], rfl, rfl, (by rw [upd_ne (ne_of_none g5 h6)]; exact g5), upd_same, (by show 11 ≤ sizeLine; decide), fun p7 h7 => ?_⟩
    have s7 := (s5.trans (same_upd (o := .lst [.bl b9, .bl b10]) h6)).trans (same_upd (o := .lst ([.bl b0, .bl b1, .bl b2, .bl b3, .bl b4, .bl b5, .bl b6, .bl b7, .bl b8] ++ [.bl b9, .bl b10])) h7)
    have g7 : (upd (upd H5 p6 (.lst [.bl b9, .bl b10])) p7 (.lst ([.bl b0, .bl b1, .bl b2, .bl b3, .bl b4, .bl b5, .bl b6, .bl b7, .bl b8] ++ [.bl b9, .bl b10]))) p7 = some (.lst ([b0, b1, b2, b3, b4, b5, b6, b7, b8, b9, b10].map V.bl)) := upd_same
    generalize upd (upd H5 p6 (.lst [.bl b9, .bl b10])) p7 (.lst ([.bl b0, .bl b1, .bl b2, .bl b3, .bl b4, .bl b5, .bl b6, .bl b7, .bl b8] ++ [.bl b9, .bl b10])) = H7 at s7 g7
    have he7 := s7 _ _ he
    have hmem : true ∈ [b0, b1, b2, b3, b4, b5, b6, b7, b8, b9, b10] := List.count_pos_iff.mp (by rw [hc]; decide)
    generalize [b0, b1, b2, b3, b4, b5, b6, b7, b8, b9, b10] = bs at hc hw g7 hmem
    refine ⟨_, rfl, .inl ⟨rfl, _, SqL.of g7⟩, p7, bs, true, rfl, rfl, SqL.of g7, rfl, _, rfl, ?_⟩
    refine ite2 (fun z => ?_) (fun _ => ?_)
    · exfalso
      rw [hc] at z
      exact absurd z (by decide)
    refine ⟨_, rfl, ea, C, _, _, true, rfl, he7, hX, rfl, k11, _, rfl, iteF ?_⟩
    refine ⟨_, rfl, ea, C, _, _, true, rfl, he7, hX, rfl, k12, _, rfl, iteF ?_⟩
    refine ⟨(by show 11 ≤ sizeLine; decide), fun p8 h8 => ?_⟩
    have s8 := s7.trans (same_upd (o := .lst words) h8)
    have g8 := (same_upd (o := .lst words) h8) _ _ g7
    refine ⟨_, rfl, _, rfl, .inl ⟨rfl, _, SqL.of g8⟩, p7, bs, true, rfl, rfl, SqL.of g8, hmem, ?_⟩
    exact ⟨p8, words, _, x, rfl, rfl, SqL.of upd_same, atI_of (by omega) (by rw [Int.toNat_natCast]; exact hw), k _ s8⟩
theorem SumIs1.same {H H' : Hp} {y : V} {b : Bool} (s : Same H H') (h : SumIs1 H y b) : SumIs1 H' y b := by
  rcases h with h | ⟨a, xs, e, h, z⟩ | ⟨a, xs, e, h, k⟩
  · exact .inl h
  · exact .inr (.inl ⟨a, xs, e, s _ _ h, z⟩)
  · exact .inr (.inr ⟨a, xs, e, s _ _ h, k⟩)
/-- a wallet that is refused, and the word for it -/
def MadeIs (H : Hp) (pu ss hs fw : V) (wd : Str) : Prop := simple pu = true ∧ simple hs = true ∧ simple fw = true ∧ ∃ b, SumIs1 H ss b ∧ ((b = false ∧ wd = "houses") ∨ (b = true ∧ ∃ sa xs, ss = .ref sa ∧ H sa = some (.lst xs) ∧ (∀ y ∈ xs, ∃ i, y = .int i) ∧
  ((isB pu 0 ((xs.length : Int) - 1) = false ∧ wd = "purse") ∨ (isB pu 0 ((xs.length : Int) - 1) = true ∧ (isB hs 1 16 && isB fw 0 5) = false ∧ wd = "number"))))
theorem ok__law_made (T : Txt K mg t) : FnOk P w K mg base CX0 8 t.f__law_made t.d__law_made ["_law_purse", "_law_begin", "_law_crew", "_law_some"] (fun vs H Q _ => ∃ pu ss hs fw wd, vs = [pu, ss, hs, fw] ∧ MadeIs H pu ss hs fw wd ∧ ∀ H', Same H H' → Q (.str wd) H') := by
  refine T.F__law_made.ok sc__law_made (fun vs H Q E h => ?_) (fun cdv A outer s H vs Q E hr h => ?_)
  · obtain ⟨pu, ss, hs, fw, wd, rfl, _⟩ := h
    rfl
  · obtain ⟨pu, ss, hs, fw, wd, rfl, ⟨tp, th, tf, b, hss, hc⟩, k⟩ := h
    refine ⟨_, (@pss_cons _ _ _ _ _ (ps_set (i := 4) sc__law_made.nd rfl (Or.inl rfl) pe_non)
      (@pss_cons _ _ _ _ _ (ps_tryU (i := 5) rfl rfl rfl rfl T.m_PurseError T.be_PurseError sc__law_made.nd rfl rfl (fun _ _ => (@pss_one _ _ _ (ps_expr (pe_makeU T.mk_Wallet (ok_Wallet___init__ T) (hr.mono (by decide)) rfl T.m_Wallet T.bk0_Wallet___init__ (pa_more (pv 0) pa_nil) (pk_cons (pv 1) (pk_cons (pv 2) (pk_cons (pv 3) pk_nil))))))) (fun _ => (@pss_one _ _ _ (ps_set (i := 4) sc__law_made.nd rfl (Or.inl rfl) (pv 5)))))
      (@pss_one _ _ _ (ps_ret (pe_ifExp (pt_cmpR op_isN (pv 4) pe_non (nomark _)) pe_str (pe_call (ok__law_refusal T) (hr.mono (by decide)) rfl T.m__law_refusal T.F__law_refusal.kp T.b__law_refusal .nil pass0 (pa_more (pv 4) pa_nil))))))), ?_⟩
    refine ⟨fun σ' cls dd H' => σ' = [some pu, some ss, some hs, some fw, some .non, none] ∧ Same H H' ∧ ((cls = .ref t.a_BadHouses ∧ wd = "houses") ∨ (cls = .ref t.a_NoPurse ∧ wd = "purse") ∨ (cls = .ref t.a_BadNumber ∧ wd = "number")), ?_, ?_⟩
    · refine ⟨_, rfl, _, rfl, _, rfl, _, rfl, fun x dx nx ndx ne => ?_⟩
      have si : Same H (upd (upd H dx (.own x)) x (.ins t.a_Wallet dx [])) := fun b u e => by
        rw [upd_ne (ne_of_none e nx), upd_ne (ne_of_none e ndx)]
        exact e
      refine ⟨x, dx, pu, ss, hs, fw, b, rfl, upd_same, .inl tp, .inl th, .inl tf, hss.same si, fun e H' s' => ?_, fun e => ?_⟩
      · rcases hc with ⟨_, z⟩ | ⟨z, _⟩
        · exact ⟨rfl, si.trans s', .inl ⟨rfl, z⟩⟩
        · rw [e] at z; cases z
      · rcases hc with ⟨z, _⟩ | ⟨_, sa, xs, rfl, hsa, ii, hc⟩
        · rw [e] at z; cases z
        refine ⟨sa, xs, rfl, si _ _ hsa, ii, fun q d H' s' _ => ?_, fun q1 q2 H' s' => ?_, fun q1 q2 => ?_⟩
        · rcases hc with ⟨_, z⟩ | ⟨z, _⟩
          · exact ⟨rfl, si.trans s', .inr (.inl ⟨rfl, z⟩)⟩
          · rw [q] at z; cases z
        · rcases hc with ⟨z, _⟩ | ⟨_, _, z⟩
          · rw [q1] at z; cases z
          · exact ⟨rfl, si.trans s', .inr (.inr ⟨rfl, z⟩)⟩
        · exfalso
          rcases hc with ⟨z, _⟩ | ⟨_, z, _⟩
          · rw [q1] at z; cases z
          · rw [q2] at z; cases z
    · rintro σ' cls dd H' ea ⟨rfl, sm, hw⟩ hea
      have sx : ∀ {u : HO}, Same H (upd H' ea u) := fun {u} => sm.trans (same_upd hea)
      rcases hw with ⟨rfl, rfl⟩ | ⟨rfl, rfl⟩ | ⟨rfl, rfl⟩
      · refine ⟨t.a_BadHouses, rfl, T.xc_BadHouses_PurseError, ?_⟩
        refine ⟨_, rfl, upd_same, ?_⟩
        rw [upd_upd]
        refine ⟨_, rfl, rfl, _, rfl, iteF ?_⟩
        exact ⟨_, rfl, ea, t.a_BadHouses, false, false, true, false, false, false, false, false, false, false, false, .str "houses", rfl, upd_same, T.xi_BadHouses, T.xk_BadHouses, by decide, rfl, fun H'' s'' => k _ (sx.trans s'')⟩
      · refine ⟨t.a_NoPurse, rfl, T.xc_NoPurse_PurseError, ?_⟩
        refine ⟨_, rfl, upd_same, ?_⟩
        rw [upd_upd]
        refine ⟨_, rfl, rfl, _, rfl, iteF ?_⟩
        exact ⟨_, rfl, ea, t.a_NoPurse, false, false, false, false, true, false, false, false, false, false, false, .str "purse", rfl, upd_same, T.xi_NoPurse, T.xk_NoPurse, by decide, rfl, fun H'' s'' => k _ (sx.trans s'')⟩
      · refine ⟨t.a_BadNumber, rfl, T.xc_BadNumber_PurseError, ?_⟩
        refine ⟨_, rfl, upd_same, ?_⟩
        rw [upd_upd]
        refine ⟨_, rfl, rfl, _, rfl, iteF ?_⟩
        exact ⟨_, rfl, ea, t.a_BadNumber, true, false, false, false, false, false, false, false, false, false, false, .str "number", rfl, upd_same, T.xi_BadNumber, T.xk_BadNumber, by decide, rfl, fun H'' s'' => k _ (sx.trans s'')⟩
inductive Ans where
  | pur (v : V)
  | paper
  | number
  | much
def Ask0 (t : Ad) (H : Hp) (vs : List V) (out : Ans) : Prop := ∃ x dx pu n hs fw fi Ow B kvs os p y, vs = [.ref x, .int 0, p, y] ∧ WalAt t H x dx pu n hs fw fi Ow B kvs os ∧ PapIs H hs fw n p false ∧ out = .paper
def Ask1 (t : Ad) (H : Hp) (vs : List V) (out : Ans) : Prop := ∃ x dx pu n hs fw fi Ow B kvs os g m, vs = [.ref x, .int 1, g, m] ∧ WalAt t H x dx pu n hs fw fi Ow B kvs os ∧ os.length ≤ 100 ∧ simple g = true ∧ simple m = true ∧
  (((isB g 0 (n - 1) = false ∨ g = .int pu) ∧ out = .pur g) ∨ (isB g 0 (n - 1) = true ∧ g ≠ .int pu ∧ ((isB m 1 1000 = false ∧ out = .number) ∨ (isB m 1 1000 = true ∧ ∃ i, m = .int i ∧ fi - (os.map fun o : O => o.m).sum < i ∧ out = .much))))
def Tells (out : Ans) (H : Hp) (Q : VK) : Prop := match out with
  | .pur v => ∀ r H', H r = none → Same H H' → H' r = some (.tup [.str "purse", v]) → Q (.ref r) H'
  | .paper => ∀ H', Same H H' → Q (.str "paper") H'
  | .number => ∀ H', Same H H' → Q (.str "number") H'
  | .much => ∀ H', Same H H' → Q (.str "much") H'
theorem ask_len {t : Ad} {H : Hp} {vs : List V} {out : Ans} (h : Ask0 t H vs out ∨ Ask1 t H vs out) : ∃ x k a b, vs = [.ref x, .int k, a, b] := by
  rcases h with ⟨x, dx, pu, n, hs, fw, fi, Ow, B, kvs, os, p, y, rfl, _⟩ | ⟨x, dx, pu, n, hs, fw, fi, Ow, B, kvs, os, g, m, rfl, _⟩
  · exact ⟨_, _, _, _, rfl⟩
  · exact ⟨_, _, _, _, rfl⟩
theorem ok__law_asked (T : Txt K mg t) : FnOk P w K mg base CX0 8 t.f__law_asked t.d__law_asked ["_law_shutet", "_law_kind", "_law_one", "_law_two"] (fun vs H Q _ => ∃ out, (Ask0 t H vs out ∨ Ask1 t H vs out) ∧ Tells out H Q) := by
  refine T.F__law_asked.ok sc__law_asked (fun vs H Q E h => ?_) (fun cdv A outer s H vs Q E hr h => ?_)
  · obtain ⟨out, h, _⟩ := h
    obtain ⟨x, k, a, b, rfl⟩ := ask_len h
    rfl
  · obtain ⟨out, hc, k⟩ := h
    obtain ⟨x, kd, a, b, rfl⟩ := ask_len hc
    refine ⟨_, (@pss_cons _ _ _ _ _ (ps_set (i := 4) sc__law_asked.nd rfl (Or.inl rfl) pe_non)
      (@pss_cons _ _ _ _ _ (ps_set (i := 5) sc__law_asked.nd rfl (Or.inl rfl) pe_non)
      (@pss_cons _ _ _ _ _ (ps_try2 (i := 6) rfl rfl rfl rfl T.m_NoPurse T.be_NoPurse rfl T.m_PurseError T.be_PurseError sc__law_asked.nd rfl rfl (fun _ _ => (@pss_one _ _ _ (ps_if (pt_cmpR op_eq (pv 1) pe_int (nomark _)) (@pss_one _ _ _ (ps_expr (pe_methU (pv 0) T.cl_Wallet T.mt_Wallet_add (ok_Wallet_add T) (hr.mono (by decide)) T.b_Wallet_add .nil (pa_more (pv 2) pa_nil)))) (@pss_one _ _ _ (ps_expr (pe_methU (pv 0) T.cl_Wallet T.mt_Wallet_order (ok_Wallet_order T) (hr.mono (by decide)) T.b_Wallet_order .nil (@pa_2 _ _ _ _ _ (pv 2) (pv 3) rfl rfl))))))) (fun _ => (@pss_cons _ _ _ _ _ (@ps_set _ _ 5 _ _ _ _ sc__law_asked.nd rfl (Or.inl rfl) (@pe_tup _ _ _ _ _ (@pa_2 _ _ _ _ _ pe_str (px (K := K) 6) rfl rfl)) (by rfl) (by first | exact .inl rfl | exact .inr rfl))
      (@pss_one _ _ _ (ps_set (i := 4) sc__law_asked.nd rfl (Or.inl rfl) (pv 6))))) (fun _ => (@pss_cons _ _ _ _ _ (ps_set (i := 5) sc__law_asked.nd rfl (Or.inl rfl) pe_non)
      (@pss_one _ _ _ (ps_set (i := 4) sc__law_asked.nd rfl (Or.inl rfl) (pv 6))))))
      (@pss_one _ _ _ (ps_ret (pe_ifExp (pt_cmpR op_isN (pv 4) pe_non (nomark _)) pe_str (pe_ifExp (pt_cmpR op_isN (pv 5) pe_non (nomark _)) (pe_call (ok__law_refusal T) (hr.mono (by decide)) rfl T.m__law_refusal T.F__law_refusal.kp T.b__law_refusal .nil pass0 (pa_more (pv 4) pa_nil)) (pv 5)))))))), ?_⟩
    refine ⟨fun σ' cls dd H' => σ' = [some (.ref x), some (.int kd), some a, some b, some .non, some .non, none] ∧ Same H H' ∧ ((∃ v d, out = .pur v ∧ cls = .ref t.a_NoPurse ∧ dd = some d ∧ H' d = some (.xd [("purse", v)])) ∨ (out = .paper ∧ cls = .ref t.a_BadPaper) ∨ (out = .number ∧ cls = .ref t.a_BadNumber) ∨ (out = .much ∧ cls = .ref t.a_TooMuch)), ?_, ?_⟩
    · rcases hc with ⟨x', dx, pu, n, hs, fw, fi, Ow, B, kvs, os, p, y, e, W, hp, rfl⟩ | ⟨x', dx, pu, n, hs, fw, fi, Ow, B, kvs, os, g, m, e, W, l, sg, sm, hc⟩
      · cases e
        refine ⟨_, rfl, rfl, _, rfl, iteT ?_⟩
        exact ⟨_, rfl, x, dx, _, rfl, W.ob, wf_no _ _ _ _ _ _ _ (by decide +kernel), _, rfl, x, dx, pu, n, hs, fw, fi, Ow, B, kvs, os, a, false, rfl, W, hp, fun _ => ⟨rfl, Same.refl _, .inr (.inl ⟨rfl, rfl⟩)⟩, fun e => by cases e⟩
      · cases e
        refine ⟨_, rfl, rfl, _, rfl, iteF ?_⟩
        refine ⟨_, rfl, x, dx, _, rfl, W.ob, wf_no _ _ _ _ _ _ _ (by decide +kernel), _, rfl, _, rfl, x, dx, pu, n, hs, fw, fi, Ow, B, kvs, os, a, b, rfl, W, l, .inl sg, .inl sm, fun q d H' s' hd => ?_, fun q1 q2 => ⟨fun q3 => ?_, fun q3 => ?_⟩⟩
        · rcases hc with ⟨_, rfl⟩ | ⟨z1, z2, _⟩
          · exact ⟨rfl, s', .inl ⟨a, d, rfl, rfl, rfl, hd⟩⟩
          · rcases q with q | q
            · rw [z1] at q; cases q
            · exact absurd q z2
        · rcases hc with ⟨z, _⟩ | ⟨_, _, ⟨_, rfl⟩ | ⟨z, _⟩⟩
          · rcases z with z | z
            · rw [q1] at z; cases z
            · exact absurd z q2
          · exact ⟨rfl, Same.refl _, .inr (.inr (.inl ⟨rfl, rfl⟩))⟩
          · rw [q3] at z; cases z
        · rcases hc with ⟨z, _⟩ | ⟨_, _, ⟨z, _⟩ | ⟨_, i, ei, hi, rfl⟩⟩
          · rcases z with z | z
            · rw [q1] at z; cases z
            · exact absurd z q2
          · rw [q3] at z; cases z
          · exact ⟨i, ei, hi, fun H' s' => ⟨rfl, s', .inr (.inr (.inr ⟨rfl, rfl⟩))⟩⟩
    · rintro σ' cls dd H' ea ⟨rfl, sm, hw⟩ hea
      have sx : ∀ {u : HO}, Same H (upd H' ea u) := fun {u} => sm.trans (same_upd hea)
      rcases hw with ⟨v, d', rfl, rfl, rfl, hd⟩ | ⟨rfl, rfl⟩ | ⟨rfl, rfl⟩ | ⟨rfl, rfl⟩
      · refine ⟨t.a_NoPurse, rfl, .inl ⟨T.xc_NoPurse_NoPurse, ?_⟩⟩
        have hd1 := same_upd (o := ExcO ea (.ref t.a_NoPurse) (some d')) hea _ _ hd
        refine ⟨_, rfl, ea, t.a_NoPurse, t.f_NoPurse___init__, d', _, v, rfl, upd_same, hd1, T.xin_NoPurse, rfl, (by show 2 ≤ sizeLine; decide), fun r hr => ?_⟩
        have rea : r ≠ ea := (ne_of_none upd_same hr).symm
        have hr' : H' r = none := by rw [upd_ne rea] at hr; exact hr
        refine ⟨_, rfl, ?_, ?_⟩
        · rw [upd_ne (Ne.symm rea), upd_same]
        · refine ⟨_, rfl, rfl, _, rfl, iteF ⟨_, rfl, rfl, _, rfl, iteF ⟨_, rfl, ?_⟩⟩⟩
          refine k r _ (sm.free hr') (fun x u e => ?_) (by rw [upd_ne rea, upd_same])
          have e' := sm _ _ e
          rw [upd_ne (ne_of_none e' hea), upd_ne (ne_of_none e' hr'), upd_ne (ne_of_none e' hea)]
          exact e'
      · refine ⟨t.a_BadPaper, rfl, .inr ⟨T.xc_BadPaper_NoPurse, T.xc_BadPaper_PurseError, ?_⟩⟩
        refine ⟨_, rfl, upd_same, ?_⟩
        rw [upd_upd]
        refine ⟨_, rfl, rfl, _, rfl, iteF ⟨_, rfl, rfl, _, rfl, iteT ?_⟩⟩
        exact ⟨_, rfl, ea, t.a_BadPaper, false, false, false, false, false, false, false, false, true, false, false, .str "paper", rfl, upd_same, T.xi_BadPaper, T.xk_BadPaper, by decide, rfl, fun H'' s'' => k _ (sx.trans s'')⟩
      · refine ⟨t.a_BadNumber, rfl, .inr ⟨T.xc_BadNumber_NoPurse, T.xc_BadNumber_PurseError, ?_⟩⟩
        refine ⟨_, rfl, upd_same, ?_⟩
        rw [upd_upd]
        refine ⟨_, rfl, rfl, _, rfl, iteF ⟨_, rfl, rfl, _, rfl, iteT ?_⟩⟩
        exact ⟨_, rfl, ea, t.a_BadNumber, true, false, false, false, false, false, false, false, false, false, false, .str "number", rfl, upd_same, T.xi_BadNumber, T.xk_BadNumber, by decide, rfl, fun H'' s'' => k _ (sx.trans s'')⟩
      · refine ⟨t.a_TooMuch, rfl, .inr ⟨T.xc_TooMuch_NoPurse, T.xc_TooMuch_PurseError, ?_⟩⟩
        refine ⟨_, rfl, upd_same, ?_⟩
        rw [upd_upd]
        refine ⟨_, rfl, rfl, _, rfl, iteF ⟨_, rfl, rfl, _, rfl, iteT ?_⟩⟩
        exact ⟨_, rfl, ea, t.a_TooMuch, false, false, false, false, false, false, false, true, false, false, false, .str "much", rfl, upd_same, T.xi_TooMuch, T.xk_TooMuch, by decide, rfl, fun H'' s'' => k _ (sx.trans s'')⟩
def dtS : V → Dt
  | .int i => .int i
  | .bl b => .bl b
  | .str z => .str z
  | _ => .non
theorem hasD_simple {K : PySem.W.Frag} {H : Hp} {x : V} (h : simple x = true) : HasD K H (dtS x) x := by
  cases x <;> first | (show HasD K H (Dt.non) V.non; rw [HasD]) | (show HasD K H (Dt.int _) (V.int _); rw [HasD]) | (show HasD K H (Dt.bl _) (V.bl _); rw [HasD]) | (show HasD K H (Dt.str _) (V.str _); rw [HasD]) | cases h
theorem eqD_simple (x : V) : eqD (dtS x) (dtS x) = true := by
  cases x <;> simp [dtS, eqD]
def purD (v : V) : Dt := .tup [.str "purse", dtS v]
theorem hasD_pur {K : PySem.W.Frag} {H : Hp} {r : Addr} {v : V} (h : H r = some (.tup [.str "purse", v])) (s : simple v = true) : HasD K H (purD v) (.ref r) := by
  unfold purD
  rw [HasD]
  refine ⟨r, _, rfl, SqT.of h, ?_⟩
  rw [HasDs]
  refine ⟨_, _, rfl, by rw [HasD], ?_⟩
  rw [HasDs]
  exact ⟨_, _, rfl, hasD_simple s, by rw [HasDs]⟩
theorem eqD_pur (v : V) : eqD (purD v) (purD v) = true := by
  unfold purD
  rw [eqD, eqDs, eqDs, eqD_simple, eqDs]
  simp [eqD]
theorem dep_pur (v : V) : depD (purD v) ≤ 60 := by
  unfold purD
  cases v <;> simp [dtS, depD, depDs]
theorem pick_of {xs : List V} {p : V → Bool} {i : Nat} {x : V} (h : xs.all p = true) (e : xs[i]? = some x) : p x = true := List.all_eq_true.mp h x (List.mem_of_getElem? e)
theorem lits_get {G H : Hp} : ∀ {ls : List Lit} {vs : List V} {i : Nat} {x : V}, Paired (LitAt G H) ls vs → vs[i]? = some x → ∃ l, ls[i]? = some l ∧ LitAt G H l x
  | _, _, i, x, .nil, e => by simp at e
  | _, _, 0, x, .cons h _, e => by
    have e' := Option.some.inj e
    subst e'
    exact ⟨_, rfl, h⟩
  | _, _, i + 1, x, .cons _ t, e => lits_get (i := i) t e
theorem lit_keep {T R : Addr} {G H H' : Hp} {l : Lit} {x : V} (hT : Town T R G) (k : KeepT T R H H') (h : LitAt G H l x) : LitAt G H' l x := h.keep fun p o g e => k p o e (hT.fresh g).1 (hT.fresh g).2
def litSum : Lit → Bool
  | .c v => simple v
  | .t _ => true
  | .l xs => decide (xs.length ≤ 1000) && (xs.all simple && !(decide (2 ≤ xs.length) && xs.all fun z => isB z 0 1000))
  | _ => false
theorem lit_sum {G H : Hp} {l : Lit} {y : V} (h : LitAt G H l y) (e : litSum l = true) : SumIs1 H y false := by
  cases l with
  | c w =>
    have h' : y = w := h
    subst h'
    exact .inl ⟨e, rfl⟩
  | t xs =>
    obtain ⟨p, rfl, _, hp⟩ := h
    exact .inr (.inl ⟨p, xs, rfl, hp, rfl⟩)
  | l xs =>
    obtain ⟨p, rfl, _, hp⟩ := h
    have e1 : (decide (xs.length ≤ 1000) && (xs.all simple && !(decide (2 ≤ xs.length) && xs.all fun z => isB z 0 1000))) = true := e
    rw [Bool.and_eq_true, Bool.and_eq_true, Bool.not_eq_true'] at e1
    exact .inr (.inr ⟨p, xs, rfl, hp, of_decide_eq_true e1.1, fun z hz => List.all_eq_true.mp e1.2.1 z hz, e1.2.2.symm⟩)
  | r xs k => cases e
theorem sum55 {H : Hp} {p : Addr} (h : H p = some (.lst [.int 5, .int 5])) : SumIs1 H (.ref p) true :=
  .inr (.inr ⟨p, _, rfl, h, by decide, by decide, by decide⟩)
theorem ints55 : ∀ y ∈ [V.int 5, V.int 5], ∃ i, y = .int i := fun y hy => by
  rcases List.mem_cons.mp hy with z | z
  · exact ⟨5, z⟩
  · exact ⟨5, List.mem_singleton.mp z⟩
theorem made_h {H : Hp} {pu ss hs fw : V} (tp : simple pu = true) (th : simple hs = true) (tf : simple fw = true) (h : SumIs1 H ss false) : MadeIs H pu ss hs fw "houses" :=
  ⟨tp, th, tf, false, h, .inl ⟨rfl, rfl⟩⟩
theorem made_p {H : Hp} {p : Addr} {pu hs fw : V} (tp : simple pu = true) (th : simple hs = true) (tf : simple fw = true) (h : H p = some (.lst [.int 5, .int 5])) (e : isB pu 0 1 = false) : MadeIs H pu (.ref p) hs fw "purse" :=
  ⟨tp, th, tf, true, sum55 h, .inr ⟨rfl, p, _, rfl, h, ints55, .inl ⟨e, rfl⟩⟩⟩
theorem made_n {H : Hp} {p : Addr} {hs fw : V} (th : simple hs = true) (tf : simple fw = true) (h : H p = some (.lst [.int 5, .int 5])) (e : isB fw 0 5 = false) : MadeIs H (.int 0) (.ref p) hs fw "number" :=
  ⟨rfl, th, tf, true, sum55 h, .inr ⟨rfl, p, _, rfl, h, ints55, .inr ⟨rfl, by rw [e, Bool.and_false], rfl⟩⟩⟩
theorem paper_at {H : Hp} {q g p : Addr} {os : List V} {u : HO} {c d b : Bool} (nq : H q = none) (ng : upd H q (.tup os) g = none) (np : upd (upd H q (.tup os)) g u p = none) (h1 : os.all simple = true) (h2 : isOV 3 os = c)
    (h3 : (∃ xs, u = .tup xs ∧ xs.all simple = true ∧ (risV xs 0 4 && decide ((4 : Int) - 1 ≤ xs.length)) = d) ∨ (∃ xs, u = .lst xs ∧ d = false)) (e : (c && d) = b) :
    Same H (upd (upd (upd H q (.tup os)) g u) p (.tup [.ref q, .ref g])) ∧ PapIs (upd (upd (upd H q (.tup os)) g u) p (.tup [.ref q, .ref g])) 4 1 3 (.ref p) b := by
  have s1 := same_upd (o := .tup os) nq
  have s2 := same_upd (o := u) ng
  refine ⟨(s1.trans s2).trans (same_upd np), ?_⟩
  subst e
  refine pap_new np (ord_tup (s2 _ _ upd_same) (fun y hy => List.all_eq_true.mp h1 y hy) h2) ?_
  rcases h3 with ⟨xs, rfl, a, z⟩ | ⟨xs, rfl, rfl⟩
  · exact sig_tup upd_same (fun y hy => List.all_eq_true.mp a y hy) z
  · exact .inr (.inl ⟨g, xs, rfl, upd_same, rfl⟩)
theorem valV_ne {i : Int} {v : V} (h : i ≠ 0) : valV [((.inl 0 : Key), v)] (.inl i) = none := by
  unfold valV
  have e : ¬ ((.inl 0 : Key) = .inl i) := fun z => h (Sum.inl.inj z).symm
  simp [h, e, Ne.symm h]
def wds : List Str := ["houses", "purse", "number", "number"]
theorem eqWd : eqD (.lst (wds.map Dt.str)) (.lst (wds.map Dt.str)) = true := by
  simp [eqD, eqDs, wds]
theorem depWd : depD (.lst (wds.map Dt.str)) ≤ 60 := by
  simp [depD, depDs, wds]
set_option maxHeartbeats 0 in
theorem ok_law (T : Txt K mg t) : FnOk P w K mg base CX0 12 t.f_law t.d_law ["_law_script"] (sp_law K) := by
  refine (T.F_law.ok (k := 11) sc_law (fun vs H Q E h => ?_) (fun cdv A outer s H vs Q E hr h => ?_))
  · obtain ⟨a, ns, rfl, _⟩ := h
    rfl
  · obtain ⟨a, ns, rfl, hS, hn, k⟩ := h
    refine ⟨_, (@pss_cons _ _ _ _ _ (ps_set (i := 1) sc_law.nd rfl (Or.inl rfl) (pe_call (ok__law_town T) (hr.mono (by decide)) rfl T.m__law_town T.F__law_town.kp T.b__law_town .nil pass0 (pa_more (pv 0) pa_nil)))
      (@pss_cons _ _ _ _ _ (ps_for PassesOwn.never rfl (pi_range1 rfl T.n_range (pa_more pe_int pa_nil)) (pg_name (i := 2) sc_law.nd rfl (Or.inl rfl)) (@pss_cons _ _ _ _ _ (ps_set (i := 3) sc_law.nd rfl (Or.inl rfl) (pe_call (ok__law_pick T) (hr.mono (by decide)) rfl T.m__law_pick T.F__law_pick.kp T.b__law_pick .nil pass0 (@pa_2 _ _ _ _ _ (pv 1) (@pe_lst _ _ _ _ (@pa_lits _ _ [.l [.int 5], .l [], .c (.non), .t [.int 5, .int 5], .l [.int 5, .int 1001], .l [.int 5, .bl true], .l [.int 5, .int (0 - 1)], .c (.int 5)] rfl)) rfl rfl)))
      (@pss_cons _ _ _ _ _ (ps_set (i := 4) sc_law.nd rfl (Or.inl rfl) (pe_call (ok__law_pick T) (hr.mono (by decide)) rfl T.m__law_pick T.F__law_pick.kp T.b__law_pick .nil pass0 (@pa_2 _ _ _ _ _ (pv 1) (@pe_lst _ _ _ _ (@pa_5 _ _ _ _ _ _ _ _ _ _ _ pe_int (pe_op op_sub pe_int pe_int) pe_bl pe_non pe_str rfl rfl rfl rfl rfl)) rfl rfl)))
      (@pss_cons _ _ _ _ _ (ps_set (i := 5) sc_law.nd rfl (Or.inl rfl) (pe_call (ok__law_pick T) (hr.mono (by decide)) rfl T.m__law_pick T.F__law_pick.kp T.b__law_pick .nil pass0 (@pa_2 _ _ _ _ _ (pv 1) (@pe_lst _ _ _ _ (@pa_4 _ _ _ _ _ _ _ _ _ pe_int pe_int pe_bl pe_non rfl rfl rfl rfl)) rfl rfl)))
      (@pss_cons _ _ _ _ _ (ps_set (i := 6) sc_law.nd rfl (Or.inl rfl) (pe_call (ok__law_pick T) (hr.mono (by decide)) rfl T.m__law_pick T.F__law_pick.kp T.b__law_pick .nil pass0 (@pa_2 _ _ _ _ _ (pv 1) (@pe_lst _ _ _ _ (@pa_4 _ _ _ _ _ _ _ _ _ pe_int (pe_op op_sub pe_int pe_int) pe_bl pe_non rfl rfl rfl rfl)) rfl rfl)))
      (@pss_cons _ _ _ _ _ (@ps_set _ _ 7 _ _ _ _ sc_law.nd rfl (Or.inl rfl) (@pe_lst _ _ _ _ (@pa_2 _ _ _ _ _ (pe_call (ok__law_made T) (hr.mono (by decide)) rfl T.m__law_made T.F__law_made.kp T.b__law_made .nil pass0 (@pa_4 _ _ _ _ _ _ _ _ _ (pv 4) (pv 3) (pv 5) (pv 6) rfl rfl rfl rfl)) (pe_call (ok__law_made T) (hr.mono (by decide)) rfl T.m__law_made T.F__law_made.kp T.b__law_made .nil pass0 (@pa_4 _ _ _ _ _ _ _ _ _ (pv 4) (@pe_lst _ _ _ _ (@pa_2 _ _ _ _ _ pe_int pe_int rfl rfl)) (pv 5) (pv 6) rfl rfl rfl rfl)) rfl rfl)) (by rfl) (by first | exact .inl rfl | exact .inr rfl))
      (@pss_one _ _ _ (ps_if (pt_cmpR (op_neD hr.units) (pe_op op_cat (pv 7) (@pe_lst _ _ _ _ (@pa_2 _ _ _ _ _ (pe_call (ok__law_made T) (hr.mono (by decide)) rfl T.m__law_made T.F__law_made.kp T.b__law_made .nil pass0 (@pa_4 _ _ _ _ _ _ _ _ _ pe_int (@pe_lst _ _ _ _ (@pa_2 _ _ _ _ _ pe_int pe_int rfl rfl)) (pv 5) (pv 6) rfl rfl rfl rfl)) (pe_call (ok__law_made T) (hr.mono (by decide)) rfl T.m__law_made T.F__law_made.kp T.b__law_made .nil pass0 (@pa_4 _ _ _ _ _ _ _ _ _ pe_int (@pe_lst _ _ _ _ (@pa_2 _ _ _ _ _ pe_int pe_int rfl rfl)) pe_int (pv 6) rfl rfl rfl rfl)) rfl rfl))) (@pe_lst _ _ _ _ (@pa_4 _ _ _ _ _ _ _ _ _ pe_str pe_str pe_str pe_str rfl rfl rfl rfl)) (nomark _)) (@pss_one _ _ _ (ps_ret pe_bl)) pss_nil))))))))
      (@pss_cons _ _ _ _ _ (ps_set (i := 8) sc_law.nd rfl (Or.inl rfl) (pe_makeK T.mk_Wallet (ok_Wallet___init__ T) (hr.mono (by decide)) rfl T.m_Wallet T.bk0_Wallet___init__ pass2_0 (pa_more pe_int pa_nil) (pk_cons (@pe_lst _ _ _ _ (@pa_3 _ _ _ _ _ _ _ pe_int pe_int pe_int rfl rfl rfl)) (pk_cons pe_int (pk_cons pe_int pk_nil)))))
      (@pss_cons _ _ _ _ _ (@ps_for _ _ _ _ _ _ _ _ PassesOwn.never rfl (@pi_list _ _ _ _ (@pe_lst _ _ _ _ (@pa_6 _ _ _ _ _ _ _ _ _ _ _ _ _ pe_non pe_int (@pe_tup _ _ _ _ _ (@pa_2 _ _ _ _ _ (@pe_tup _ _ _ _ _ (@pa_4 _ _ _ _ _ _ _ _ _ pe_int pe_int pe_int pe_int rfl rfl rfl rfl)) (@pe_tup _ _ _ _ _ (@pa_2 _ _ _ _ _ pe_int pe_int rfl rfl)) rfl rfl)) (@pe_tup _ _ _ _ _ (@pa_2 _ _ _ _ _ (@pe_tup _ _ _ _ _ (@pa_4 _ _ _ _ _ _ _ _ _ pe_int pe_int pe_int pe_int rfl rfl rfl rfl)) (@pe_tup _ _ _ _ _ (@pa_3 _ _ _ _ _ _ _ pe_int pe_int pe_int rfl rfl rfl)) rfl rfl)) (@pe_tup _ _ _ _ _ (@pa_2 _ _ _ _ _ (@pe_tup _ _ _ _ _ (@pa_4 _ _ _ _ _ _ _ _ _ pe_int pe_int pe_int pe_int rfl rfl rfl rfl)) (@pe_tup _ _ _ _ _ (@pa_3 _ _ _ _ _ _ _ pe_int pe_int pe_int rfl rfl rfl)) rfl rfl)) (@pe_tup _ _ _ _ _ (@pa_2 _ _ _ _ _ (@pe_tup _ _ _ _ _ (@pa_4 _ _ _ _ _ _ _ _ _ pe_int pe_int pe_int pe_int rfl rfl rfl rfl)) (@pe_lst _ _ _ _ (@pa_3 _ _ _ _ _ _ _ pe_int pe_int pe_int rfl rfl rfl)) rfl rfl)) rfl rfl rfl rfl rfl rfl))) (pg_name (i := 9) sc_law.nd rfl (Or.inl rfl)) (@pss_one _ _ _ (ps_if (pt_cmpR op_ne (pe_call (ok__law_asked T) (hr.mono (by decide)) rfl T.m__law_asked T.F__law_asked.kp T.b__law_asked .nil pass0 (@pa_4 _ _ _ _ _ _ _ _ _ (pv 8) pe_int (pv 9) pe_int rfl rfl rfl rfl)) pe_str (nomark _)) (@pss_one _ _ _ (ps_ret pe_bl)) pss_nil)) (by intro _; rfl))
      (@pss_cons _ _ _ _ _ (@ps_for _ _ _ _ _ _ _ _ PassesOwn.never rfl (@pi_list _ _ _ _ (@pe_lst _ _ _ _ (@pa_6 _ _ _ _ _ _ _ _ _ _ _ _ _ pe_int (pe_op op_sub pe_int pe_int) pe_bl pe_non pe_str pe_int rfl rfl rfl rfl rfl rfl))) (pg_name (i := 9) sc_law.nd rfl (Or.inl rfl)) (@pss_one _ _ _ (ps_if (pt_cmpR (op_neD hr.units) (pe_call (ok__law_asked T) (hr.mono (by decide)) rfl T.m__law_asked T.F__law_asked.kp T.b__law_asked .nil pass0 (@pa_4 _ _ _ _ _ _ _ _ _ (pv 8) pe_int (pv 9) pe_int rfl rfl rfl rfl)) (@pe_tup _ _ _ _ _ (@pa_2 _ _ _ _ _ pe_str (pv 9) rfl rfl)) (nomark _)) (@pss_one _ _ _ (ps_ret pe_bl)) pss_nil)) (by intro _; rfl))
      (@pss_cons _ _ _ _ _ (@ps_for _ _ _ _ _ _ _ _ PassesOwn.never rfl (@pi_list _ _ _ _ (@pe_lst _ _ _ _ (@pa_4 _ _ _ _ _ _ _ _ _ pe_int pe_int pe_bl pe_non rfl rfl rfl rfl))) (pg_name (i := 9) sc_law.nd rfl (Or.inl rfl)) (@pss_one _ _ _ (ps_if (pt_cmpR op_ne (pe_call (ok__law_asked T) (hr.mono (by decide)) rfl T.m__law_asked T.F__law_asked.kp T.b__law_asked .nil pass0 (@pa_4 _ _ _ _ _ _ _ _ _ (pv 8) pe_int pe_int (pv 9) rfl rfl rfl rfl)) pe_str (nomark _)) (@pss_one _ _ _ (ps_ret pe_bl)) pss_nil)) (by intro _; rfl))
      (@pss_cons _ _ _ _ _ (ps_if (PW.pt (pw_or (pt_cmpR op_ne (pe_call (ok__law_asked T) (hr.mono (by decide)) rfl T.m__law_asked T.F__law_asked.kp T.b__law_asked .nil pass0 (@pa_4 _ _ _ _ _ _ _ _ _ (pv 8) pe_int pe_int pe_int rfl rfl rfl rfl)) pe_str (nomark _)) (pw_or (pt_cmpR op_ne (pe_meth0 (pv 8) T.cl_Wallet T.mt_Wallet_has (ok_Wallet_has T) (hr.mono (by decide)) T.b_Wallet_has .nil pass0) pe_int (nomark _)) (pw_or1 (pt_cmpR op_ne (pe_meth0 (pv 8) T.cl_Wallet T.mt_Wallet_next_number (ok_Wallet_next_number T) (hr.mono (by decide)) T.b_Wallet_next_number .nil pass0) pe_int (nomark _)))))) (@pss_one _ _ _ (ps_ret pe_bl)) pss_nil)
      (@pss_cons _ _ _ _ _ (ps_expr (pe_meth (pv 8) T.cl_Wallet T.mt_Wallet_add (ok_Wallet_add T) (hr.mono (by decide)) T.b_Wallet_add .nil pass2_0 (pa_more (@pe_tup _ _ _ _ _ (@pa_2 _ _ _ _ _ (@pe_tup _ _ _ _ _ (@pa_4 _ _ _ _ _ _ _ _ _ pe_int pe_int pe_int pe_int rfl rfl rfl rfl)) (@pe_tup _ _ _ _ _ (@pa_3 _ _ _ _ _ _ _ pe_int pe_int pe_int rfl rfl rfl)) rfl rfl)) pa_nil)))
      (@pss_one _ _ _ (ps_ret (pe_and (pe_cmpR op_eq (pe_call (ok__law_asked T) (hr.mono (by decide)) rfl T.m__law_asked T.F__law_asked.kp T.b__law_asked .nil pass0 (@pa_4 _ _ _ _ _ _ _ _ _ (pv 8) pe_int pe_int pe_int rfl rfl rfl rfl)) pe_str (nomark _)) (pe_and (pe_cmpR op_eq (pe_meth0 (pv 8) T.cl_Wallet T.mt_Wallet_next_number (ok_Wallet_next_number T) (hr.mono (by decide)) T.b_Wallet_next_number .nil pass0) pe_int (nomark _)) (pe_one (pe_cmpR op_eq (pe_meth0 (pv 8) T.cl_Wallet T.mt_Wallet_has (ok_Wallet_has T) (hr.mono (by decide)) T.b_Wallet_has .nil pass0) pe_int (nomark _))))))))))))))), ?_⟩
    refine ⟨_, rfl, a, ns, rfl, hS, fun To R H1 nT nR s1 hT => ?_⟩
    refine ⟨4, rfl, by decide, by decide, for_range (lo := 0) (n := (4 : Int).toNat) (fun i σ H' => ∃ v2 v3 v4 v5 v6 v7, σ = [some (.ref a), some (.ref To), v2, v3, v4, v5, v6, v7, none, none] ∧ Town To R H') ⟨none, none, none, none, none, none, rfl, hT⟩ ?_ ?_⟩
    · rintro i σ H2 hi ⟨v2, v3, v4, v5, v6, v7, rfl, hT2⟩
      refine ⟨_, rfl, lits_read _ (by decide) fun vs H3 s3 pb => ⟨(by rw [← Paired.length pb]; decide), fun L1 n1 => ?_⟩⟩
      have lb := Paired.length pb
      have z3 := same_upd (o := .lst vs) n1
      have hT3 := (hT2.same s3).same z3
      have nM := (hT2.same s3).fresh n1
      refine ⟨To, R, L1, vs, rfl, hT3, upd_same, nM.1, nM.2, (by rw [← lb]; decide), (by rw [← lb]; decide), fun i1 x1 H4 e1 hT4 k4 => ?_⟩
      obtain ⟨ly, ely, hly⟩ := lits_get pb e1
      have l4 := lit_keep hT2 k4 (hly.same z3)
      have sy : litSum ly = true := by
        have hb : ([.l [.int 5], .l [], .c .non, .t [.int 5, .int 5], .l [.int 5, .int 1001], .l [.int 5, .bl true], .l [.int 5, .int (0 - 1)], .c (.int 5)] : List Lit).all litSum = true := by decide
        exact List.all_eq_true.mp hb ly (List.mem_of_getElem? ely)
      refine ⟨_, rfl, _, _, rfl, rfl, (by show 5 ≤ sizeLine; decide), fun L2 n2 => ?_⟩
      refine ⟨To, R, L2, [.int 2, .int (0 - 1), .bl true, .non, .str "0"], rfl, hT4.same (same_upd n2), upd_same, (hT4.fresh n2).1, (hT4.fresh n2).2, (by decide : 0 < 5), (by decide : 5 ≤ 1000), fun i2 x2 H5 e2 hT5 k5 => ?_⟩
      have p2 : (fun x => simple x && !isB x 0 1) x2 = true := pick_of (p := fun x => simple x && !isB x 0 1) (by decide) e2
      have l5 := lit_keep hT2 k5 (l4.same (same_upd n2))
      refine ⟨_, rfl, (by show 4 ≤ sizeLine; decide), fun L3 n3 => ?_⟩
      refine ⟨To, R, L3, [.int 0, .int 17, .bl true, .non], rfl, hT5.same (same_upd n3), upd_same, (hT5.fresh n3).1, (hT5.fresh n3).2, (by decide : 0 < 4), (by decide : 4 ≤ 1000), fun i3 x3 H6 e3 hT6 k6 => ?_⟩
      have p3 : simple x3 = true := pick_of (p := simple) (by decide) e3
      have l6 := lit_keep hT2 k6 (l5.same (same_upd n3))
      refine ⟨_, rfl, _, _, rfl, rfl, (by show 4 ≤ sizeLine; decide), fun L4 n4 => ?_⟩
      refine ⟨To, R, L4, [.int 6, .int (0 - 1), .bl true, .non], rfl, hT6.same (same_upd n4), upd_same, (hT6.fresh n4).1, (hT6.fresh n4).2, (by decide : 0 < 4), (by decide : 4 ≤ 1000), fun i4 x4 H7 e4 hT7 k7 => ?_⟩
      have p4 : (fun x => simple x && !isB x 0 5) x4 = true := pick_of (p := fun x => simple x && !isB x 0 5) (by decide) e4
      have l7 := lit_keep hT2 k7 (l6.same (same_upd n4))
      simp only [Bool.and_eq_true, Bool.not_eq_true'] at p2 p4
      have S7 := lit_sum l7 sy
      refine ⟨_, rfl, _, rfl, _, rfl, _, rfl, x2, x1, x3, x4, "houses", rfl, made_h p2.1 p3 p4.1 S7, fun H8 s8 => ?_⟩
      refine ⟨_, rfl, (by show 2 ≤ sizeLine; decide), fun b1 m1 => ?_⟩
      have s9 := same_upd (o := .lst [.int 5, .int 5]) m1
      refine ⟨_, rfl, _, rfl, x2, .ref b1, x3, x4, "purse", rfl, made_p p2.1 p3 p4.1 upd_same p2.2, fun H9 s10 => ?_⟩
      refine ⟨(by show 2 ≤ sizeLine; decide), fun F nF => ?_⟩
      have sF := (s8.trans s9).trans (s10.trans (same_upd (o := .lst [.str "houses", .str "purse"]) nF))
      have hF : upd H9 F (.lst [.str "houses", .str "purse"]) F = some (.lst [.str "houses", .str "purse"]) := upd_same
      generalize upd H9 F (.lst [.str "houses", .str "purse"]) = H10 at sF hF
      refine ⟨_, rfl, (by show 2 ≤ sizeLine; decide), fun b2 m2 => ?_⟩
      have s11 := same_upd (o := .lst [.int 5, .int 5]) m2
      refine ⟨_, rfl, _, rfl, .int 0, .ref b2, x3, x4, "number", rfl, made_n p3 p4.1 upd_same p4.2, fun H11 s12 => ?_⟩
      refine ⟨(by show 2 ≤ sizeLine; decide), fun b3 m3 => ?_⟩
      have s13 := same_upd (o := .lst [.int 5, .int 5]) m3
      refine ⟨_, rfl, .int 0, .ref b3, .int 4, x4, "number", rfl, made_n rfl p4.1 upd_same p4.2, fun H12 s14 => ?_⟩
      refine ⟨(by show 2 ≤ sizeLine; decide), fun G nG => ?_⟩
      have sG := ((s11.trans s12).trans (s13.trans s14)).trans (same_upd (o := .lst [.str "number", .str "number"]) nG)
      refine ⟨F, G, _, _, rfl, rfl, sG _ _ hF, upd_same, (by show 4 ≤ sizeLine; decide), fun J nJ => ?_⟩
      have hJ : upd (upd H12 G (.lst [.str "number", .str "number"])) J (.lst ([.str "houses", .str "purse"] ++ [.str "number", .str "number"])) J = some (.lst (wds.map V.str)) := upd_same
      have sJ := (sF.trans sG).trans (same_upd (o := .lst ([.str "houses", .str "purse"] ++ [.str "number", .str "number"])) nJ)
      generalize upd (upd H12 G (.lst [.str "number", .str "number"])) J (.lst ([.str "houses", .str "purse"] ++ [.str "number", .str "number"])) = H15 at sJ hJ
      refine ⟨(by show 4 ≤ sizeLine; decide), fun M1 nM1 => ?_⟩
      have s16 := same_upd (o := .lst [.str "houses", .str "purse", .str "number", .str "number"]) nM1
      refine ⟨.lst (wds.map Dt.str), .lst (wds.map Dt.str), hasD_listS (SqL.of (s16 _ _ hJ)), hasD_listS (SqL.of upd_same), depWd, _, rfl, ?_⟩
      rw [eqWd]
      exact iteF ⟨_, _, _, _, _, _, rfl, (hT7.same sJ).same s16⟩
    · rintro σ H2 ⟨v2, v3, v4, v5, v6, v7, rfl, hT2⟩
      refine ⟨(by show 3 ≤ sizeLine; decide), fun L1 nL1 => ?_⟩
      have hL1 : upd H2 L1 (.lst [.int 5, .int 5, .int 5]) L1 = some (.lst [.int 5, .int 5, .int 5]) := upd_same
      generalize upd H2 L1 (.lst [.int 5, .int 5, .int 5]) = H6 at hL1
      refine fun x dx nx ndx nex => ?_
      have sj : Same H6 (upd (upd H6 dx (.own x)) x (.ins t.a_Wallet dx [])) := fun b u e => by
        rw [upd_ne (ne_of_none e nx), upd_ne (ne_of_none e ndx)]
        exact e
      refine ⟨x, dx, .int 0, .ref L1, .int 4, .int 1, true, rfl, upd_same, .inl rfl, .inl rfl, .inl rfl, .inr (.inr ⟨L1, _, rfl, sj _ _ hL1, by decide, by decide, by decide⟩), fun e => (by cases e), fun _ => ⟨L1, _, rfl, sj _ _ hL1, ?_, fun e => (by cases e), fun _ e => (by cases e), fun _ _ p h f fi ep eh ef ei Ow B H7 W _ => ⟨rfl, ?_⟩⟩⟩
      · intro y hy
        have : y = .int 5 := by
          rcases List.mem_cons.mp hy with z | hy
          · exact z
          · rcases List.mem_cons.mp hy with z | hy
            · exact z
            · exact List.mem_singleton.mp hy
        exact ⟨5, this⟩
      cases ep
      cases eh
      cases ef
      cases ei
      have W7 : WalAt t H7 x dx 0 3 4 1 5 Ow B [] [] := W
      clear W sj nx ndx nex hL1 nL1 hT2 hT
      have no : ∀ {m : Str}, (¬ m = "brought" ∧ ¬ m = "own" ∧ ¬ m = "first" ∧ ¬ m = "few" ∧ ¬ m = "houses" ∧ ¬ m = "purses" ∧ ¬ m = "purse") → (wf 0 3 4 1 5 Ow B).lookup m = none := fun h => wf_no _ _ _ _ _ _ _ h
      -- papers that are none
      refine ⟨(by show 4 ≤ sizeLine; decide), fun q1 nq1 => ⟨(by show 2 ≤ sizeLine; decide), fun g1 ng1 => ⟨(by show 2 ≤ sizeLine; decide), fun p1 np1 => ?_⟩⟩⟩
      obtain ⟨a1, P1⟩ := paper_at (b := false) nq1 ng1 np1 (by decide) rfl (.inl ⟨_, rfl, by decide, rfl⟩) (by decide)
      revert a1 P1
      generalize upd (upd (upd H7 q1 _) g1 _) p1 _ = G1
      intro a1 P1
      refine ⟨(by show 4 ≤ sizeLine; decide), fun q2 nq2 => ⟨(by show 3 ≤ sizeLine; decide), fun g2 ng2 => ⟨(by show 2 ≤ sizeLine; decide), fun p2 np2 => ?_⟩⟩⟩
      obtain ⟨a2, P2⟩ := paper_at (b := false) nq2 ng2 np2 (by decide) rfl (.inl ⟨_, rfl, by decide, rfl⟩) (by decide)
      revert a2 P2
      generalize upd (upd (upd G1 q2 _) g2 _) p2 _ = G2
      intro a2 P2
      refine ⟨(by show 4 ≤ sizeLine; decide), fun q3 nq3 => ⟨(by show 3 ≤ sizeLine; decide), fun g3 ng3 => ⟨(by show 2 ≤ sizeLine; decide), fun p3 np3 => ?_⟩⟩⟩
      obtain ⟨a3, P3⟩ := paper_at (b := false) nq3 ng3 np3 (by decide) rfl (.inl ⟨_, rfl, by decide, rfl⟩) (by decide)
      revert a3 P3
      generalize upd (upd (upd G2 q3 _) g3 _) p3 _ = G3
      intro a3 P3
      refine ⟨(by show 4 ≤ sizeLine; decide), fun q4 nq4 => ⟨(by show 3 ≤ sizeLine; decide), fun g4 ng4 => ⟨(by show 2 ≤ sizeLine; decide), fun p4 np4 => ?_⟩⟩⟩
      obtain ⟨a4, P4⟩ := paper_at (b := false) nq4 ng4 np4 (by decide) rfl (.inr ⟨_, rfl, rfl⟩) (by decide)
      revert a4 P4
      generalize upd (upd (upd G3 q4 _) g4 _) p4 _ = G4
      intro a4 P4
      have W8 := (((W7.same a1).same a2).same a3).same a4
      have allP : ∀ y ∈ [V.non, .int 5, .ref p1, .ref p2, .ref p3, .ref p4], PapIs G4 4 1 3 y false := fun y hy => by
        simp only [List.mem_cons, List.not_mem_nil, or_false] at hy
        rcases hy with rfl | rfl | rfl | rfl | rfl | rfl
        · exact .inl ⟨rfl, rfl⟩
        · exact .inl ⟨rfl, rfl⟩
        · exact ((P1.stay (.of a2)).stay (.of a3)).stay (.of a4)
        · exact (P2.stay (.of a3)).stay (.of a4)
        · exact P3.stay (.of a4)
        · exact P4
      refine ⟨(by show 6 ≤ sizeLine; decide), fun LP nLP => ?_⟩
      have zP := same_upd (o := .lst [V.non, .int 5, .ref p1, .ref p2, .ref p3, .ref p4]) nLP
      have hLP : upd G4 LP (.lst [V.non, .int 5, .ref p1, .ref p2, .ref p3, .ref p4]) LP = some (.lst [V.non, .int 5, .ref p1, .ref p2, .ref p3, .ref p4]) := upd_same
      have W9 := W8.same zP
      generalize upd G4 LP (.lst [V.non, .int 5, .ref p1, .ref p2, .ref p3, .ref p4]) = H9 at zP hLP W9
      refine ⟨LP, rfl, ⟨_, SqL.of hLP⟩, for_list (K := K) (a := LP) (xs := [V.non, .int 5, .ref p1, .ref p2, .ref p3, .ref p4]) (fun i σ H' => ∃ v9, σ = [some (.ref a), some (.ref To), v2, v3, v4, v5, v6, v7, some (.ref x), v9] ∧ Same H9 H') ⟨none, rfl, Same.refl _⟩ (fun i σ H' _ ⟨_, _, s'⟩ => SqL.of (s' _ _ hLP)) ?_ ?_⟩
      · rintro i y σ H' hy ⟨v9, rfl, s'⟩
        refine ⟨_, rfl, _, rfl, .paper, .inl ⟨x, dx, 0, 3, 4, 1, 5, Ow, B, [], [], y, .int 0, rfl, W9.same s', (allP y (List.mem_of_getElem? hy)).stay (.of (zP.trans s')), rfl⟩, fun Hd sd => ?_⟩
        refine ⟨rfl, _, rfl, ?_⟩
        rw [decide_eq_true rfl]
        exact iteF ⟨_, rfl, s'.trans sd⟩
      rintro σ H' ⟨v9, rfl, s'⟩
      have W10 := W9.same s'
      clear W9 W8 W7 allP hLP zP P1 P2 P3 P4 a1 a2 a3 a4 s'
      -- goals that are none
      refine ⟨_, _, rfl, rfl, (by show 6 ≤ sizeLine; decide), fun LO nLO => ?_⟩
      have W11 := W10.same (same_upd (o := .lst [.int 3, .int (0 - 1), .bl true, .non, .str "1", .int 0]) nLO)
      have hLO : upd H' LO (.lst [.int 3, .int (0 - 1), .bl true, .non, .str "1", .int 0]) LO = some (.lst [.int 3, .int (0 - 1), .bl true, .non, .str "1", .int 0]) := upd_same
      generalize upd H' LO (.lst [.int 3, .int (0 - 1), .bl true, .non, .str "1", .int 0]) = H11 at W11 hLO
      refine ⟨LO, rfl, ⟨_, SqL.of hLO⟩, for_list (K := K) (a := LO) (xs := [.int 3, .int (0 - 1), .bl true, .non, .str "1", .int 0]) (fun i σ H' => ∃ v9, σ = [some (.ref a), some (.ref To), v2, v3, v4, v5, v6, v7, some (.ref x), v9] ∧ Same H11 H') ⟨v9, rfl, Same.refl _⟩ (fun i σ H' _ ⟨_, _, s'⟩ => SqL.of (s' _ _ hLO)) ?_ ?_⟩
      · rintro i y σ Ha hy ⟨v9, rfl, sa⟩
        have py : (fun x => simple x && (!isB x 0 2 || decide (x = .int 0))) y = true := pick_of (p := fun x => simple x && (!isB x 0 2 || decide (x = .int 0))) (by decide) hy
        simp only [Bool.and_eq_true, Bool.or_eq_true, Bool.not_eq_true', decide_eq_true_eq] at py
        refine ⟨_, rfl, _, rfl, .pur y, .inr ⟨x, dx, 0, 3, 4, 1, 5, Ow, B, [], [], y, .int 0, rfl, W11.same sa, by decide, py.1, rfl, .inl ⟨py.2, rfl⟩⟩, fun r Hd nr sd hr => ?_⟩
        refine ⟨_, rfl, (by show 2 ≤ sizeLine; decide), fun q2 nq2 => ?_⟩
        have se := same_upd (o := .tup [.str "purse", y]) nq2
        refine ⟨purD y, purD y, hasD_pur (se _ _ hr) py.1, hasD_pur upd_same py.1, dep_pur _, _, rfl, ?_⟩
        rw [eqD_pur]
        exact iteF ⟨_, rfl, (sa.trans sd).trans se⟩
      rintro σ Ha ⟨v9, rfl, sa⟩
      have W12 := W11.same sa
      clear W11 hLO sa W10
      -- sums that are none
      refine ⟨(by show 4 ≤ sizeLine; decide), fun LS nLS => ?_⟩
      have W13 := W12.same (same_upd (o := .lst [.int 0, .int 1001, .bl true, .non]) nLS)
      have hLS : upd Ha LS (.lst [.int 0, .int 1001, .bl true, .non]) LS = some (.lst [.int 0, .int 1001, .bl true, .non]) := upd_same
      generalize upd Ha LS (.lst [.int 0, .int 1001, .bl true, .non]) = H13 at W13 hLS
      refine ⟨LS, rfl, ⟨_, SqL.of hLS⟩, for_list (K := K) (a := LS) (xs := [.int 0, .int 1001, .bl true, .non]) (fun i σ H' => ∃ v9, σ = [some (.ref a), some (.ref To), v2, v3, v4, v5, v6, v7, some (.ref x), v9] ∧ Same H13 H') ⟨v9, rfl, Same.refl _⟩ (fun i σ H' _ ⟨_, _, s'⟩ => SqL.of (s' _ _ hLS)) ?_ ?_⟩
      · rintro i y σ Hb hy ⟨v9, rfl, sb⟩
        have py : (fun x => simple x && !isB x 1 1000) y = true := pick_of (p := fun x => simple x && !isB x 1 1000) (by decide) hy
        simp only [Bool.and_eq_true, Bool.not_eq_true'] at py
        refine ⟨_, rfl, _, rfl, .number, .inr ⟨x, dx, 0, 3, 4, 1, 5, Ow, B, [], [], .int 1, y, rfl, W13.same sb, by decide, rfl, py.1, .inr ⟨by decide, by decide, .inl ⟨py.2, rfl⟩⟩⟩, fun Hd sd => ?_⟩
        refine ⟨rfl, _, rfl, ?_⟩
        rw [decide_eq_true rfl]
        exact iteF ⟨_, rfl, sb.trans sd⟩
      rintro σ Hb ⟨v9, rfl, sb⟩
      have W14 := W13.same sb
      clear W13 hLS sb W12
      -- more than it has
      refine ⟨_, rfl, .much, .inr ⟨x, dx, 0, 3, 4, 1, 5, Ow, B, [], [], .int 1, .int 6, rfl, W14, by decide, rfl, rfl, .inr ⟨by decide, by decide, .inr ⟨by decide, 6, rfl, by decide, rfl⟩⟩⟩, fun Hc sc => ?_⟩
      have W15 := W14.same sc
      refine ⟨rfl, _, rfl, ?_⟩
      rw [decide_eq_true rfl]
      refine iteF ?_
      refine ⟨_, rfl, x, dx, _, rfl, W15.ob, no (by decide +kernel), x, dx, 0, 3, 4, 1, 5, Ow, B, [], [], rfl, W15, by decide, fun Hd sd => ⟨rfl, _, rfl, ?_⟩⟩
      rw [show decide (V.int (5 - (([] : List O).map fun o : O => o.m).sum) = V.int 5) = true by decide]
      refine iteF ?_
      have W16 := W15.same sd
      refine ⟨_, rfl, x, dx, _, rfl, W16.ob, no (by decide +kernel), x, dx, 0, 3, 4, 1, 5, Ow, B, [], [], 0, rfl, W16, by decide, fun i => ?_, rfl, _, rfl, ?_⟩
      · rw [decide_eq_false (by omega)]
        rfl
      rw [decide_eq_true rfl]
      refine iteF ?_
      clear W14 W15
      -- a paper
      refine ⟨_, rfl, x, dx, _, rfl, W16.ob, no (by decide +kernel), (by show 4 ≤ sizeLine; decide), fun q nq => ⟨(by show 3 ≤ sizeLine; decide), fun g ng => ⟨(by show 2 ≤ sizeLine; decide), fun p np => ?_⟩⟩⟩
      obtain ⟨sp, PT⟩ := paper_at (b := true) nq ng np (by decide) rfl (.inl ⟨_, rfl, by decide, rfl⟩) (by decide)
      have hp : upd (upd (upd Hd q (.tup [.int 0, .int 0, .int 1, .int 5])) g (.tup [.int 0, .int 1, .int 2])) p (.tup [.ref q, .ref g]) p = some (.tup [.ref q, .ref g]) := upd_same
      have hq : upd (upd (upd Hd q (.tup [.int 0, .int 0, .int 1, .int 5])) g (.tup [.int 0, .int 1, .int 2])) p (.tup [.ref q, .ref g]) q = some (.tup (ordV ⟨0, 0, 1, 5⟩)) := (same_upd np) _ _ ((same_upd ng) _ _ upd_same)
      generalize upd (upd (upd Hd q (.tup [.int 0, .int 0, .int 1, .int 5])) g (.tup [.int 0, .int 1, .int 2])) p (.tup [.ref q, .ref g]) = H17 at sp PT hp hq
      have W17 := W16.same sp
      refine ⟨x, dx, 0, 3, 4, 1, 5, Ow, B, [], [], .ref p, true, rfl, W17, PT, fun e => (by cases e), fun _ => ⟨p, q, .ref g, ⟨0, 0, 1, 5⟩, rfl, hp, hq, rfl, rfl, by decide, ?_⟩⟩
      have W18 : WalAt t (upd H17 Ow (.dK ([] ++ [(.inl 0, .ref p)]))) x dx 0 3 4 1 5 Ow B [(.inl 0, .ref p)] [⟨0, 0, 1, 5⟩] := by
        refine ⟨?_, upd_same, ?_, .cons ⟨p, q, .ref g, rfl, ?_, ?_⟩ .nil, W17.ne⟩
        · rw [upd_ne (ne_of W17.ob W17.own (by intro z; cases z))]; exact W17.ob
        · rw [upd_ne W17.ne.symm]; exact W17.bro
        · rw [upd_ne (ne_of hp W17.own (by intro z; cases z))]; exact hp
        · rw [upd_ne (ne_of hq W17.own (by intro z; cases z))]; exact hq
      generalize upd H17 Ow (.dK ([] ++ [(.inl 0, .ref p)])) = H18 at W18
      refine ⟨_, rfl, .much, .inr ⟨x, dx, 0, 3, 4, 1, 5, Ow, B, _, _, .int 1, .int 1, rfl, W18, by decide, rfl, rfl, .inr ⟨by decide, by decide, .inr ⟨by decide, 1, rfl, by decide, rfl⟩⟩⟩, fun Hx sx => ?_⟩
      have W19 := W18.same sx
      refine ⟨rfl, _, rfl, ?_⟩
      rw [decide_eq_true rfl]
      refine iteT ?_
      refine ⟨_, rfl, x, dx, _, rfl, W19.ob, no (by decide +kernel), x, dx, 0, 3, 4, 1, 5, Ow, B, _, _, 1, rfl, W19, by decide, fun i => ?_, rfl, _, rfl, ?_⟩
      · by_cases z : i = 0
        · subst z
          rfl
        · rw [decide_eq_false (by omega), valV_ne z]
          rfl
      rw [decide_eq_true rfl]
      refine iteT ?_
      refine ⟨_, rfl, x, dx, _, rfl, W19.ob, no (by decide +kernel), x, dx, 0, 3, 4, 1, 5, Ow, B, _, _, rfl, W19, by decide, fun Hy sy => ⟨rfl, ?_⟩⟩
      rw [show decide (V.int (5 - (([⟨0, 0, 1, 5⟩] : List O).map fun o : O => o.m).sum) = V.int 0) = true by decide]
      exact k _
end
set_option maxHeartbeats 4000000 in
theorem txt_mk {K : PySem.W.Frag} {h : Heap} {mg : Str → Option Value} (X : K.In h) (G : h.Ns mainGlobals mg)
    {ca0 : Addr}
    {xa0 : Addr}
    {xa1 : Addr}
    {xa2 : Addr}
    {xa3 : Addr}
    {xa4 : Addr}
    {xa5 : Addr}
    {xa6 : Addr}
    {xa7 : Addr}
    {xa8 : Addr}
    {xa9 : Addr}
    {xa10 : Addr}
    {xa11 : Addr}
    {f0 : Addr} {oc0 kV0 dc0 pm0 cd0 ct0 : Value} {od0 an0 : Option Addr} {sl0 : Array (Option Value)}
    {f1 : Addr} {oc1 kV1 dc1 pm1 cd1 ct1 : Value} {od1 an1 : Option Addr} {sl1 : Array (Option Value)}
    {f2 : Addr} {oc2 kV2 dc2 pm2 cd2 ct2 : Value} {od2 an2 : Option Addr} {sl2 : Array (Option Value)}
    {f3 : Addr} {oc3 kV3 dc3 pm3 cd3 ct3 : Value} {od3 an3 : Option Addr} {sl3 : Array (Option Value)}
    {f4 : Addr} {oc4 kV4 dc4 pm4 cd4 ct4 : Value} {od4 an4 : Option Addr} {sl4 : Array (Option Value)}
    {f5 : Addr} {oc5 kV5 dc5 pm5 cd5 ct5 : Value} {od5 an5 : Option Addr} {sl5 : Array (Option Value)}
    {f6 : Addr} {oc6 kV6 dc6 pm6 cd6 ct6 : Value} {od6 an6 : Option Addr} {sl6 : Array (Option Value)}
    {f7 : Addr} {oc7 kV7 dc7 pm7 cd7 ct7 : Value} {od7 an7 : Option Addr} {sl7 : Array (Option Value)}
    {f8 : Addr} {oc8 kV8 dc8 pm8 cd8 ct8 : Value} {od8 an8 : Option Addr} {sl8 : Array (Option Value)}
    {f9 : Addr} {oc9 kV9 dc9 pm9 cd9 ct9 : Value} {od9 an9 : Option Addr} {sl9 : Array (Option Value)}
    {f10 : Addr} {oc10 kV10 dc10 pm10 cd10 ct10 : Value} {od10 an10 : Option Addr} {sl10 : Array (Option Value)}
    {f11 : Addr} {oc11 kV11 dc11 pm11 cd11 ct11 : Value} {od11 an11 : Option Addr} {sl11 : Array (Option Value)}
    {f12 : Addr} {oc12 kV12 dc12 pm12 cd12 ct12 : Value} {od12 an12 : Option Addr} {sl12 : Array (Option Value)}
    {f13 : Addr} {oc13 kV13 dc13 pm13 cd13 ct13 : Value} {od13 an13 : Option Addr} {sl13 : Array (Option Value)}
    {f14 : Addr} {oc14 kV14 dc14 pm14 cd14 ct14 : Value} {od14 an14 : Option Addr} {sl14 : Array (Option Value)}
    {f15 : Addr} {oc15 kV15 dc15 pm15 cd15 ct15 : Value} {od15 an15 : Option Addr} {sl15 : Array (Option Value)}
    {f16 : Addr} {oc16 kV16 dc16 pm16 cd16 ct16 : Value} {od16 an16 : Option Addr} {sl16 : Array (Option Value)}
    {f17 : Addr} {oc17 kV17 dc17 pm17 cd17 ct17 : Value} {od17 an17 : Option Addr} {sl17 : Array (Option Value)}
    {f18 : Addr} {oc18 kV18 dc18 pm18 cd18 ct18 : Value} {od18 an18 : Option Addr} {sl18 : Array (Option Value)}
    {f19 : Addr} {oc19 kV19 dc19 pm19 cd19 ct19 : Value} {od19 an19 : Option Addr} {sl19 : Array (Option Value)}
    {f20 : Addr} {oc20 kV20 dc20 pm20 cd20 ct20 : Value} {od20 an20 : Option Addr} {sl20 : Array (Option Value)}
    {f21 : Addr} {oc21 kV21 dc21 pm21 cd21 ct21 : Value} {od21 an21 : Option Addr} {sl21 : Array (Option Value)}
    {f22 : Addr} {oc22 kV22 dc22 pm22 cd22 ct22 : Value} {od22 an22 : Option Addr} {sl22 : Array (Option Value)}
    {f23 : Addr} {oc23 kV23 dc23 pm23 cd23 ct23 : Value} {od23 an23 : Option Addr} {sl23 : Array (Option Value)}
    {gt0 : Tok}
    {gt1 : Tok}
    {gt2 : Tok}
    {gt3 : Tok}
    {gt4 : Tok}
    {gt5 : Tok}
    (cm0 : PySem.W.nsIn K mainGlobals "Wallet" = some (some (.ref ca0)))
    (cg0 : PySem.W.plainGet K ca0 Str.empty = true) (ch0 : PySem.W.hasDictIn K ca0 = true) (co0 : PySem.W.plainOver K ca0 = true) (cs0 : PySem.W.findIn K (.ref ca0) "__setattr__" = some (some (.builtin "object.__setattr__")))
    (cn0_0 : PySem.W.findIn K (.ref ca0) "purse" = some none)
    (cn0_1 : PySem.W.findIn K (.ref ca0) "purses" = some none)
    (cn0_2 : PySem.W.findIn K (.ref ca0) "houses" = some none)
    (cn0_3 : PySem.W.findIn K (.ref ca0) "few" = some none)
    (cn0_4 : PySem.W.findIn K (.ref ca0) "first" = some none)
    (cn0_5 : PySem.W.findIn K (.ref ca0) "own" = some none)
    (cn0_6 : PySem.W.findIn K (.ref ca0) "brought" = some none)
    (xm0 : PySem.W.nsIn K mainGlobals "TooMuch" = some (some (.ref xa0)))
    (xm1 : PySem.W.nsIn K mainGlobals "BadNumber" = some (some (.ref xa1)))
    (xm2 : PySem.W.nsIn K mainGlobals "NoPurse" = some (some (.ref xa2)))
    (xm3 : PySem.W.nsIn K mainGlobals "BadPaper" = some (some (.ref xa3)))
    (xm4 : PySem.W.nsIn K mainGlobals "BadHouses" = some (some (.ref xa4)))
    (xm5 : PySem.W.nsIn K mainGlobals "PurseError" = some (some (.ref xa5)))
    (xm6 : PySem.W.nsIn K mainGlobals "BadCut" = some (some (.ref xa6)))
    (xm7 : PySem.W.nsIn K mainGlobals "BadText" = some (some (.ref xa7)))
    (xm8 : PySem.W.nsIn K mainGlobals "NotNow" = some (some (.ref xa8)))
    (xm9 : PySem.W.nsIn K mainGlobals "NoHouse" = some (some (.ref xa9)))
    (xm10 : PySem.W.nsIn K mainGlobals "NoLetter" = some (some (.ref xa10)))
    (xm11 : PySem.W.nsIn K mainGlobals "BadOrder" = some (some (.ref xa11)))
    (a0 : PySem.W.nsIn K mainGlobals "is_whole" = some (some (.ref f0)))
    (l0 : K.lookup f0 = some ⟨oc0, od0, .func (PySem.W.fnOf "is_whole" "is_whole" (defArgs s_is_whole) (defBody s_is_whole) (defScope s_is_whole) .none kV0 dc0 pm0 an0 cd0 ct0), sl0⟩)
    (c0 : PySem.W.codeIn K cd0 "is_whole" = true) (k0 : PySem.W.keepIn K (.ref f0) = true)
    (a1 : PySem.W.nsIn K mainGlobals "is_between" = some (some (.ref f1)))
    (l1 : K.lookup f1 = some ⟨oc1, od1, .func (PySem.W.fnOf "is_between" "is_between" (defArgs s_is_between) (defBody s_is_between) (defScope s_is_between) .none kV1 dc1 pm1 an1 cd1 ct1), sl1⟩)
    (c1 : PySem.W.codeIn K cd1 "is_between" = true) (k1 : PySem.W.keepIn K (.ref f1) = true)
    (a2 : PySem.W.nsIn K mainGlobals "is_order" = some (some (.ref f2)))
    (l2 : K.lookup f2 = some ⟨oc2, od2, .func (PySem.W.fnOf "is_order" "is_order" (defArgs s_is_order) (defBody s_is_order) (defScope s_is_order) .none kV2 dc2 pm2 an2 cd2 ct2), sl2⟩)
    (c2 : PySem.W.codeIn K cd2 "is_order" = true) (k2 : PySem.W.keepIn K (.ref f2) = true)
    (a3 : PySem.W.nsIn K mainGlobals "are_rising" = some (some (.ref f3)))
    (l3 : K.lookup f3 = some ⟨oc3, od3, .func (PySem.W.fnOf "are_rising" "are_rising" (defArgs s_are_rising) (defBody s_are_rising) (defScope s_are_rising) .none kV3 dc3 pm3 an3 cd3 ct3), sl3⟩)
    (c3 : PySem.W.codeIn K cd3 "are_rising" = true) (k3 : PySem.W.keepIn K (.ref f3) = true)
    (a4 : PySem.W.nsIn K mainGlobals "enough_of" = some (some (.ref f4)))
    (l4 : K.lookup f4 = some ⟨oc4, od4, .func (PySem.W.fnOf "enough_of" "enough_of" (defArgs s_enough_of) (defBody s_enough_of) (defScope s_enough_of) .none kV4 dc4 pm4 an4 cd4 ct4), sl4⟩)
    (c4 : PySem.W.codeIn K cd4 "enough_of" = true) (k4 : PySem.W.keepIn K (.ref f4) = true)
    (a5 : PySem.W.nsIn K mainGlobals "checked" = some (some (.ref f5)))
    (l5 : K.lookup f5 = some ⟨oc5, od5, .func (PySem.W.fnOf "checked" "checked" (defArgs s_checked) (defBody s_checked) (defScope s_checked) .none kV5 dc5 pm5 an5 cd5 ct5), sl5⟩)
    (c5 : PySem.W.codeIn K cd5 "checked" = true) (k5 : PySem.W.keepIn K (.ref f5) = true)
    (a6 : PySem.W.nsIn K mainGlobals "is_house_count" = some (some (.ref f6)))
    (l6 : K.lookup f6 = some ⟨oc6, od6, .func (PySem.W.fnOf "is_house_count" "is_house_count" (defArgs s_is_house_count) (defBody s_is_house_count) (defScope s_is_house_count) .none kV6 dc6 pm6 an6 cd6 ct6), sl6⟩)
    (c6 : PySem.W.codeIn K cd6 "is_house_count" = true) (k6 : PySem.W.keepIn K (.ref f6) = true)
    (a7 : PySem.W.nsIn K mainGlobals "is_few" = some (some (.ref f7)))
    (l7 : K.lookup f7 = some ⟨oc7, od7, .func (PySem.W.fnOf "is_few" "is_few" (defArgs s_is_few) (defBody s_is_few) (defScope s_is_few) .none kV7 dc7 pm7 an7 cd7 ct7), sl7⟩)
    (c7 : PySem.W.codeIn K cd7 "is_few" = true) (k7 : PySem.W.keepIn K (.ref f7) = true)
    (a8 : PySem.W.nsIn K mainGlobals "are_sums" = some (some (.ref f8)))
    (l8 : K.lookup f8 = some ⟨oc8, od8, .func (PySem.W.fnOf "are_sums" "are_sums" (defArgs s_are_sums) (defBody s_are_sums) (defScope s_are_sums) .none kV8 dc8 pm8 an8 cd8 ct8), sl8⟩)
    (c8 : PySem.W.codeIn K cd8 "are_sums" = true) (k8 : PySem.W.keepIn K (.ref f8) = true)
    (a9 : PySem.W.findIn K (.ref xa2) "__init__" = some (some (.ref f9)))
    (l9 : K.lookup f9 = some ⟨oc9, od9, .func (PySem.W.fnOf "__init__" "NoPurse.__init__" (defArgs s_NoPurse___init__) (defBody s_NoPurse___init__) (defScope s_NoPurse___init__) .none kV9 dc9 pm9 an9 cd9 ct9), sl9⟩)
    (c9 : PySem.W.codeIn K cd9 "NoPurse.__init__" = true) (k9 : PySem.W.keepIn K (.ref f9) = true)
    (xrn9 : initIn K xa2 f9 = true) (xd9a : PySem.W.findIn K (.ref xa2) "__setattr__" = some (some (.builtin "object.__setattr__"))) (xd9b : PySem.W.findIn K (.ref xa2) "__getattribute__" = some (some (.builtin "BaseException.__getattribute__"))) (xd9c : PySem.W.findIn K (.ref xa2) "__getattr__" = some none) (xd9d : PySem.W.findIn K (.ref xa2) "purse" = some none)
    (a10 : PySem.W.nsIn K mainGlobals "put_new" = some (some (.ref f10)))
    (l10 : K.lookup f10 = some ⟨oc10, od10, .func (PySem.W.fnOf "put_new" "put_new" (defArgs s_put_new) (defBody s_put_new) (defScope s_put_new) .none kV10 dc10 pm10 an10 cd10 ct10), sl10⟩)
    (c10 : PySem.W.codeIn K cd10 "put_new" = true) (k10 : PySem.W.keepIn K (.ref f10) = true)
    (a11 : PySem.W.nsIn K mainGlobals "sum_of" = some (some (.ref f11)))
    (l11 : K.lookup f11 = some ⟨oc11, od11, .func (PySem.W.fnOf "sum_of" "sum_of" (defArgs s_sum_of) (defBody s_sum_of) (defScope s_sum_of) .none kV11 dc11 pm11 an11 cd11 ct11), sl11⟩)
    (c11 : PySem.W.codeIn K cd11 "sum_of" = true) (k11 : PySem.W.keepIn K (.ref f11) = true)
    (a12 : PySem.W.findIn K (.ref ca0) "__init__" = some (some (.ref f12))) (n12 : PySem.W.isFn K (.ref f12) = true)
    (mk12 : PySem.W.makesIn K ca0 = true) (mq12 : PySem.W.keepIn K (.ref ca0) = true)
    (l12 : K.lookup f12 = some ⟨oc12, od12, .func (PySem.W.fnOf "__init__" "Wallet.__init__" (defArgs s_Wallet___init__) (defBody s_Wallet___init__) (defScope s_Wallet___init__) .none kV12 dc12 pm12 an12 cd12 ct12), sl12⟩)
    (c12 : PySem.W.codeIn K cd12 "Wallet.__init__" = true) (k12 : PySem.W.keepIn K (.ref f12) = true)
    (a13 : PySem.W.findIn K (.ref ca0) "add" = some (some (.ref f13))) (n13 : PySem.W.isFn K (.ref f13) = true)
    (l13 : K.lookup f13 = some ⟨oc13, od13, .func (PySem.W.fnOf "add" "Wallet.add" (defArgs s_Wallet_add) (defBody s_Wallet_add) (defScope s_Wallet_add) .none kV13 dc13 pm13 an13 cd13 ct13), sl13⟩)
    (c13 : PySem.W.codeIn K cd13 "Wallet.add" = true) (k13 : PySem.W.keepIn K (.ref f13) = true)
    (a14 : PySem.W.findIn K (.ref ca0) "has" = some (some (.ref f14))) (n14 : PySem.W.isFn K (.ref f14) = true)
    (l14 : K.lookup f14 = some ⟨oc14, od14, .func (PySem.W.fnOf "has" "Wallet.has" (defArgs s_Wallet_has) (defBody s_Wallet_has) (defScope s_Wallet_has) .none kV14 dc14 pm14 an14 cd14 ct14), sl14⟩)
    (c14 : PySem.W.codeIn K cd14 "Wallet.has" = true) (k14 : PySem.W.keepIn K (.ref f14) = true)
    (a15 : PySem.W.findIn K (.ref ca0) "next_number" = some (some (.ref f15))) (n15 : PySem.W.isFn K (.ref f15) = true)
    (l15 : K.lookup f15 = some ⟨oc15, od15, .func (PySem.W.fnOf "next_number" "Wallet.next_number" (defArgs s_Wallet_next_number) (defBody s_Wallet_next_number) (defScope s_Wallet_next_number) .none kV15 dc15 pm15 an15 cd15 ct15), sl15⟩)
    (c15 : PySem.W.codeIn K cd15 "Wallet.next_number" = true) (k15 : PySem.W.keepIn K (.ref f15) = true)
    (a16 : PySem.W.findIn K (.ref ca0) "order" = some (some (.ref f16))) (n16 : PySem.W.isFn K (.ref f16) = true)
    (l16 : K.lookup f16 = some ⟨oc16, od16, .func (PySem.W.fnOf "order" "Wallet.order" (defArgs s_Wallet_order) (defBody s_Wallet_order) (defScope s_Wallet_order) .none kV16 dc16 pm16 an16 cd16 ct16), sl16⟩)
    (c16 : PySem.W.codeIn K cd16 "Wallet.order" = true) (k16 : PySem.W.keepIn K (.ref f16) = true)
    (a17 : PySem.W.nsIn K mainGlobals "_law_town" = some (some (.ref f17)))
    (l17 : K.lookup f17 = some ⟨oc17, od17, .func (PySem.W.fnOf "_law_town" "_law_town" (defArgs s__law_town) (defBody s__law_town) (defScope s__law_town) .none kV17 dc17 pm17 an17 cd17 ct17), sl17⟩)
    (c17 : PySem.W.codeIn K cd17 "_law_town" = true) (k17 : PySem.W.keepIn K (.ref f17) = true)
    (a18 : PySem.W.nsIn K mainGlobals "_law_draw" = some (some (.ref f18)))
    (l18 : K.lookup f18 = some ⟨oc18, od18, .func (PySem.W.fnOf "_law_draw" "_law_draw" (defArgs s__law_draw) (defBody s__law_draw) (defScope s__law_draw) .none kV18 dc18 pm18 an18 cd18 ct18), sl18⟩)
    (c18 : PySem.W.codeIn K cd18 "_law_draw" = true) (k18 : PySem.W.keepIn K (.ref f18) = true)
    (a19 : PySem.W.nsIn K mainGlobals "_law_pick" = some (some (.ref f19)))
    (l19 : K.lookup f19 = some ⟨oc19, od19, .func (PySem.W.fnOf "_law_pick" "_law_pick" (defArgs s__law_pick) (defBody s__law_pick) (defScope s__law_pick) .none kV19 dc19 pm19 an19 cd19 ct19), sl19⟩)
    (c19 : PySem.W.codeIn K cd19 "_law_pick" = true) (k19 : PySem.W.keepIn K (.ref f19) = true)
    (a20 : PySem.W.nsIn K mainGlobals "_law_refusal" = some (some (.ref f20)))
    (l20 : K.lookup f20 = some ⟨oc20, od20, .func (PySem.W.fnOf "_law_refusal" "_law_refusal" (defArgs s__law_refusal) (defBody s__law_refusal) (defScope s__law_refusal) .none kV20 dc20 pm20 an20 cd20 ct20), sl20⟩)
    (c20 : PySem.W.codeIn K cd20 "_law_refusal" = true) (k20 : PySem.W.keepIn K (.ref f20) = true)
    (a21 : PySem.W.nsIn K mainGlobals "_law_made" = some (some (.ref f21)))
    (l21 : K.lookup f21 = some ⟨oc21, od21, .func (PySem.W.fnOf "_law_made" "_law_made" (defArgs s__law_made) (defBody s__law_made) (defScope s__law_made) .none kV21 dc21 pm21 an21 cd21 ct21), sl21⟩)
    (c21 : PySem.W.codeIn K cd21 "_law_made" = true) (k21 : PySem.W.keepIn K (.ref f21) = true)
    (a22 : PySem.W.nsIn K mainGlobals "_law_asked" = some (some (.ref f22)))
    (l22 : K.lookup f22 = some ⟨oc22, od22, .func (PySem.W.fnOf "_law_asked" "_law_asked" (defArgs s__law_asked) (defBody s__law_asked) (defScope s__law_asked) .none kV22 dc22 pm22 an22 cd22 ct22), sl22⟩)
    (c22 : PySem.W.codeIn K cd22 "_law_asked" = true) (k22 : PySem.W.keepIn K (.ref f22) = true)
    (a23 : PySem.W.nsIn K mainGlobals "law" = some (some (.ref f23)))
    (l23 : K.lookup f23 = some ⟨oc23, od23, .func (PySem.W.fnOf "law" "law" (defArgs s_law) (defBody s_law) (defScope s_law) .none kV23 dc23 pm23 an23 cd23 ct23), sl23⟩)
    (c23 : PySem.W.codeIn K cd23 "law" = true) (k23 : PySem.W.keepIn K (.ref f23) = true)
    (hgc0 : PySem.W.nsIn K mainGlobals "MOST_MUCH" = some (some (.int 1000 gt0)))
    (hgc1 : PySem.W.nsIn K mainGlobals "LAST_NUMBER" = some (some (.int 99 gt1)))
    (hgc2 : PySem.W.nsIn K mainGlobals "MOST_FIRST_SUM" = some (some (.int 1000 gt2)))
    (hgc3 : PySem.W.nsIn K mainGlobals "LEAST_PURSES" = some (some (.int 2 gt3)))
    (hgc4 : PySem.W.nsIn K mainGlobals "MOST_HOUSES" = some (some (.int 16 gt4)))
    (hgc5 : PySem.W.nsIn K mainGlobals "MOST_FEW" = some (some (.int 5 gt5)))
    (xr0 : PySem.W.excIn K xa0 vErr "ValueError.__new__" = true)
    (xg0 : PySem.W.findIn K (.ref xa0) "__getattribute__" = some (some (.builtin "BaseException.__getattribute__"))) (xh0 : PySem.W.findIn K (.ref xa0) "__getattr__" = some none) (xj0 : PySem.W.findIn K (.ref xa0) "__class__" = some (some (.builtin "object.__class__")))
    (xp0 : PySem.W.mroIn K xa0 (.type "BaseException") = some true) (xo0 : PySem.W.mroIn K xa0 (.type "object") = some true) (xs0 : (PySem.W.clsIn K xa0).isSome = true)
    (xk0 : kinds K (.ref xa0) [.ref xa1, .ref xa11, .ref xa4, .ref xa9, .ref xa2, .ref xa10, .ref xa8, .ref xa0, .ref xa3, .ref xa6, .ref xa7, .ref xa5, .type "ValueError"] = [some false, some false, some false, some false, some false, some false, some false, some true, some false, some false, some false, some true, some true])
    (xc0_0 : PySem.W.kitCls K (.ref xa0) (.ref xa5) = some true)
    (xc0_1 : PySem.W.kitCls K (.ref xa0) (.ref xa2) = some false)
    (xr1 : PySem.W.excIn K xa1 vErr "ValueError.__new__" = true)
    (xg1 : PySem.W.findIn K (.ref xa1) "__getattribute__" = some (some (.builtin "BaseException.__getattribute__"))) (xh1 : PySem.W.findIn K (.ref xa1) "__getattr__" = some none) (xj1 : PySem.W.findIn K (.ref xa1) "__class__" = some (some (.builtin "object.__class__")))
    (xp1 : PySem.W.mroIn K xa1 (.type "BaseException") = some true) (xo1 : PySem.W.mroIn K xa1 (.type "object") = some true) (xs1 : (PySem.W.clsIn K xa1).isSome = true)
    (xk1 : kinds K (.ref xa1) [.ref xa1, .ref xa11, .ref xa4, .ref xa9, .ref xa2, .ref xa10, .ref xa8, .ref xa0, .ref xa3, .ref xa6, .ref xa7, .ref xa5, .type "ValueError"] = [some true, some false, some false, some false, some false, some false, some false, some false, some false, some false, some false, some true, some true])
    (xc1_0 : PySem.W.kitCls K (.ref xa1) (.ref xa5) = some true)
    (xc1_1 : PySem.W.kitCls K (.ref xa1) (.ref xa2) = some false)
    (xg2 : PySem.W.findIn K (.ref xa2) "__getattribute__" = some (some (.builtin "BaseException.__getattribute__"))) (xh2 : PySem.W.findIn K (.ref xa2) "__getattr__" = some none) (xj2 : PySem.W.findIn K (.ref xa2) "__class__" = some (some (.builtin "object.__class__")))
    (xp2 : PySem.W.mroIn K xa2 (.type "BaseException") = some true) (xo2 : PySem.W.mroIn K xa2 (.type "object") = some true) (xs2 : (PySem.W.clsIn K xa2).isSome = true)
    (xk2 : kinds K (.ref xa2) [.ref xa1, .ref xa11, .ref xa4, .ref xa9, .ref xa2, .ref xa10, .ref xa8, .ref xa0, .ref xa3, .ref xa6, .ref xa7, .ref xa5, .type "ValueError"] = [some false, some false, some false, some false, some true, some false, some false, some false, some false, some false, some false, some true, some true])
    (xc2_0 : PySem.W.kitCls K (.ref xa2) (.ref xa5) = some true)
    (xc2_1 : PySem.W.kitCls K (.ref xa2) (.ref xa2) = some true)
    (xr3 : PySem.W.excIn K xa3 vErr "ValueError.__new__" = true)
    (xg3 : PySem.W.findIn K (.ref xa3) "__getattribute__" = some (some (.builtin "BaseException.__getattribute__"))) (xh3 : PySem.W.findIn K (.ref xa3) "__getattr__" = some none) (xj3 : PySem.W.findIn K (.ref xa3) "__class__" = some (some (.builtin "object.__class__")))
    (xp3 : PySem.W.mroIn K xa3 (.type "BaseException") = some true) (xo3 : PySem.W.mroIn K xa3 (.type "object") = some true) (xs3 : (PySem.W.clsIn K xa3).isSome = true)
    (xk3 : kinds K (.ref xa3) [.ref xa1, .ref xa11, .ref xa4, .ref xa9, .ref xa2, .ref xa10, .ref xa8, .ref xa0, .ref xa3, .ref xa6, .ref xa7, .ref xa5, .type "ValueError"] = [some false, some false, some false, some false, some false, some false, some false, some false, some true, some false, some false, some true, some true])
    (xc3_0 : PySem.W.kitCls K (.ref xa3) (.ref xa5) = some true)
    (xc3_1 : PySem.W.kitCls K (.ref xa3) (.ref xa2) = some false)
    (xr4 : PySem.W.excIn K xa4 vErr "ValueError.__new__" = true)
    (xg4 : PySem.W.findIn K (.ref xa4) "__getattribute__" = some (some (.builtin "BaseException.__getattribute__"))) (xh4 : PySem.W.findIn K (.ref xa4) "__getattr__" = some none) (xj4 : PySem.W.findIn K (.ref xa4) "__class__" = some (some (.builtin "object.__class__")))
    (xp4 : PySem.W.mroIn K xa4 (.type "BaseException") = some true) (xo4 : PySem.W.mroIn K xa4 (.type "object") = some true) (xs4 : (PySem.W.clsIn K xa4).isSome = true)
    (xk4 : kinds K (.ref xa4) [.ref xa1, .ref xa11, .ref xa4, .ref xa9, .ref xa2, .ref xa10, .ref xa8, .ref xa0, .ref xa3, .ref xa6, .ref xa7, .ref xa5, .type "ValueError"] = [some false, some false, some true, some false, some false, some false, some false, some false, some false, some false, some false, some true, some true])
    (xc4_0 : PySem.W.kitCls K (.ref xa4) (.ref xa5) = some true)
    (xc4_1 : PySem.W.kitCls K (.ref xa4) (.ref xa2) = some false)
    (xb0 : PySem.W.mroIn K xa5 (.type "BaseException") = some true)
    (xb1 : PySem.W.mroIn K xa2 (.type "BaseException") = some true)
    (z0 : PySem.W.nsIn K mainGlobals "isinstance" = some none)
    (z1 : PySem.W.nsIn K mainGlobals "bool" = some none)
    (z2 : PySem.W.nsIn K mainGlobals "int" = some none)
    (z3 : PySem.W.nsIn K mainGlobals "len" = some none)
    (z4 : PySem.W.nsIn K mainGlobals "tuple" = some none)
    (z5 : PySem.W.nsIn K mainGlobals "all" = some none)
    (z6 : PySem.W.nsIn K mainGlobals "list" = some none)
    (z7 : PySem.W.nsIn K mainGlobals "sum" = some none)
    (z8 : PySem.W.nsIn K mainGlobals "ValueError" = some none)
    (z9 : PySem.W.nsIn K mainGlobals "range" = some none) :
    Txt K mg ⟨f0, (PySem.W.fnOf "is_whole" "is_whole" (defArgs s_is_whole) (defBody s_is_whole) (defScope s_is_whole) .none kV0 dc0 pm0 an0 cd0 ct0), f1, (PySem.W.fnOf "is_between" "is_between" (defArgs s_is_between) (defBody s_is_between) (defScope s_is_between) .none kV1 dc1 pm1 an1 cd1 ct1), f2, (PySem.W.fnOf "is_order" "is_order" (defArgs s_is_order) (defBody s_is_order) (defScope s_is_order) .none kV2 dc2 pm2 an2 cd2 ct2), f3, (PySem.W.fnOf "are_rising" "are_rising" (defArgs s_are_rising) (defBody s_are_rising) (defScope s_are_rising) .none kV3 dc3 pm3 an3 cd3 ct3), f4, (PySem.W.fnOf "enough_of" "enough_of" (defArgs s_enough_of) (defBody s_enough_of) (defScope s_enough_of) .none kV4 dc4 pm4 an4 cd4 ct4), f5, (PySem.W.fnOf "checked" "checked" (defArgs s_checked) (defBody s_checked) (defScope s_checked) .none kV5 dc5 pm5 an5 cd5 ct5), f6, (PySem.W.fnOf "is_house_count" "is_house_count" (defArgs s_is_house_count) (defBody s_is_house_count) (defScope s_is_house_count) .none kV6 dc6 pm6 an6 cd6 ct6), f7, (PySem.W.fnOf "is_few" "is_few" (defArgs s_is_few) (defBody s_is_few) (defScope s_is_few) .none kV7 dc7 pm7 an7 cd7 ct7), f8, (PySem.W.fnOf "are_sums" "are_sums" (defArgs s_are_sums) (defBody s_are_sums) (defScope s_are_sums) .none kV8 dc8 pm8 an8 cd8 ct8), f9, (PySem.W.fnOf "__init__" "NoPurse.__init__" (defArgs s_NoPurse___init__) (defBody s_NoPurse___init__) (defScope s_NoPurse___init__) .none kV9 dc9 pm9 an9 cd9 ct9), f10, (PySem.W.fnOf "put_new" "put_new" (defArgs s_put_new) (defBody s_put_new) (defScope s_put_new) .none kV10 dc10 pm10 an10 cd10 ct10), f11, (PySem.W.fnOf "sum_of" "sum_of" (defArgs s_sum_of) (defBody s_sum_of) (defScope s_sum_of) .none kV11 dc11 pm11 an11 cd11 ct11), f12, (PySem.W.fnOf "__init__" "Wallet.__init__" (defArgs s_Wallet___init__) (defBody s_Wallet___init__) (defScope s_Wallet___init__) .none kV12 dc12 pm12 an12 cd12 ct12), f13, (PySem.W.fnOf "add" "Wallet.add" (defArgs s_Wallet_add) (defBody s_Wallet_add) (defScope s_Wallet_add) .none kV13 dc13 pm13 an13 cd13 ct13), f14, (PySem.W.fnOf "has" "Wallet.has" (defArgs s_Wallet_has) (defBody s_Wallet_has) (defScope s_Wallet_has) .none kV14 dc14 pm14 an14 cd14 ct14), f15, (PySem.W.fnOf "next_number" "Wallet.next_number" (defArgs s_Wallet_next_number) (defBody s_Wallet_next_number) (defScope s_Wallet_next_number) .none kV15 dc15 pm15 an15 cd15 ct15), f16, (PySem.W.fnOf "order" "Wallet.order" (defArgs s_Wallet_order) (defBody s_Wallet_order) (defScope s_Wallet_order) .none kV16 dc16 pm16 an16 cd16 ct16), f17, (PySem.W.fnOf "_law_town" "_law_town" (defArgs s__law_town) (defBody s__law_town) (defScope s__law_town) .none kV17 dc17 pm17 an17 cd17 ct17), f18, (PySem.W.fnOf "_law_draw" "_law_draw" (defArgs s__law_draw) (defBody s__law_draw) (defScope s__law_draw) .none kV18 dc18 pm18 an18 cd18 ct18), f19, (PySem.W.fnOf "_law_pick" "_law_pick" (defArgs s__law_pick) (defBody s__law_pick) (defScope s__law_pick) .none kV19 dc19 pm19 an19 cd19 ct19), f20, (PySem.W.fnOf "_law_refusal" "_law_refusal" (defArgs s__law_refusal) (defBody s__law_refusal) (defScope s__law_refusal) .none kV20 dc20 pm20 an20 cd20 ct20), f21, (PySem.W.fnOf "_law_made" "_law_made" (defArgs s__law_made) (defBody s__law_made) (defScope s__law_made) .none kV21 dc21 pm21 an21 cd21 ct21), f22, (PySem.W.fnOf "_law_asked" "_law_asked" (defArgs s__law_asked) (defBody s__law_asked) (defScope s__law_asked) .none kV22 dc22 pm22 an22 cd22 ct22), f23, (PySem.W.fnOf "law" "law" (defArgs s_law) (defBody s_law) (defScope s_law) .none kV23 dc23 pm23 an23 cd23 ct23), ca0, xa0, xa1, xa2, xa3, xa4, xa5, xa6, xa7, xa8, xa9, xa10, xa11⟩ where
  F_is_whole := fun_mk (st := s_is_whole) l0 c0 k0
  m_is_whole := PySem.W.mg_of X G a0
  b_is_whole := (fun_mk (st := s_is_whole) l0 c0 k0).binds (ps := ["thing"]) fun _ _ _ _ _ _ us hl => match us, hl with | [_], _ => rfl
  F_is_between := fun_mk (st := s_is_between) l1 c1 k1
  m_is_between := PySem.W.mg_of X G a1
  b_is_between := (fun_mk (st := s_is_between) l1 c1 k1).binds (ps := ["thing", "low", "high"]) fun _ _ _ _ _ _ us hl => match us, hl with | [_, _, _], _ => rfl
  F_is_order := fun_mk (st := s_is_order) l2 c2 k2
  m_is_order := PySem.W.mg_of X G a2
  bk0_is_order := ⟨fun s us ws _ hl => match us, ws, hl with | [_], [_], _ => .of_eq rfl, fun {vs us zs ws} r1 r2 => kb_rel11 r1 r2⟩
  F_are_rising := fun_mk (st := s_are_rising) l3 c3 k3
  m_are_rising := PySem.W.mg_of X G a3
  b_are_rising := (fun_mk (st := s_are_rising) l3 c3 k3).binds (ps := ["things", "bound"]) fun _ _ _ _ _ _ us hl => match us, hl with | [_, _], _ => rfl
  F_enough_of := fun_mk (st := s_enough_of) l4 c4 k4
  m_enough_of := PySem.W.mg_of X G a4
  bk0_enough_of := ⟨fun s us ws _ hl => match us, ws, hl with | [_], [_], _ => .of_eq rfl, fun {vs us zs ws} r1 r2 => kb_rel11 r1 r2⟩
  F_checked := fun_mk (st := s_checked) l5 c5 k5
  m_checked := PySem.W.mg_of X G a5
  bk0_checked := ⟨fun s us ws _ hl => match us, ws, hl with | [_], [_, _, _], _ => .of_eq rfl, fun {vs us zs ws} r1 r2 => kb_rel13 r1 r2⟩
  F_is_house_count := fun_mk (st := s_is_house_count) l6 c6 k6
  m_is_house_count := PySem.W.mg_of X G a6
  b_is_house_count := (fun_mk (st := s_is_house_count) l6 c6 k6).binds (ps := ["thing"]) fun _ _ _ _ _ _ us hl => match us, hl with | [_], _ => rfl
  F_is_few := fun_mk (st := s_is_few) l7 c7 k7
  m_is_few := PySem.W.mg_of X G a7
  b_is_few := (fun_mk (st := s_is_few) l7 c7 k7).binds (ps := ["thing"]) fun _ _ _ _ _ _ us hl => match us, hl with | [_], _ => rfl
  F_are_sums := fun_mk (st := s_are_sums) l8 c8 k8
  m_are_sums := PySem.W.mg_of X G a8
  b_are_sums := (fun_mk (st := s_are_sums) l8 c8 k8).binds (ps := ["thing"]) fun _ _ _ _ _ _ us hl => match us, hl with | [_], _ => rfl
  F_NoPurse___init__ := fun_mk (st := s_NoPurse___init__) l9 c9 k9
  xin_NoPurse := ⟨xrn9, a9, xd9a, xd9b, xd9c, xd9d⟩
  b_NoPurse___init__ := (fun_mk (st := s_NoPurse___init__) l9 c9 k9).binds (ps := ["self", "purse"]) fun _ _ _ _ _ _ us hl => match us, hl with | [_, _], _ => rfl
  F_put_new := fun_mk (st := s_put_new) l10 c10 k10
  m_put_new := PySem.W.mg_of X G a10
  b_put_new := (fun_mk (st := s_put_new) l10 c10 k10).binds (ps := ["papers", "key", "paper"]) fun _ _ _ _ _ _ us hl => match us, hl with | [_, _, _], _ => rfl
  F_sum_of := fun_mk (st := s_sum_of) l11 c11 k11
  m_sum_of := PySem.W.mg_of X G a11
  b_sum_of := (fun_mk (st := s_sum_of) l11 c11 k11).binds (ps := ["papers"]) fun _ _ _ _ _ _ us hl => match us, hl with | [_], _ => rfl
  F_Wallet___init__ := fun_mk (st := s_Wallet___init__) l12 c12 k12
  mt_Wallet___init__ := ⟨a12, n12, k12⟩
  mk_Wallet := ⟨mk12, a12, n12, mq12⟩
  bk0_Wallet___init__ := ⟨fun s us ws _ hl => match us, ws, hl with | [_, _], [_, _, _], _ => .of_eq rfl, fun {vs us zs ws} r1 r2 => kb_rel23 r1 r2⟩
  F_Wallet_add := fun_mk (st := s_Wallet_add) l13 c13 k13
  mt_Wallet_add := ⟨a13, n13, k13⟩
  b_Wallet_add := (fun_mk (st := s_Wallet_add) l13 c13 k13).binds (ps := ["self", "paper"]) fun _ _ _ _ _ _ us hl => match us, hl with | [_, _], _ => rfl
  F_Wallet_has := fun_mk (st := s_Wallet_has) l14 c14 k14
  mt_Wallet_has := ⟨a14, n14, k14⟩
  b_Wallet_has := (fun_mk (st := s_Wallet_has) l14 c14 k14).binds (ps := ["self"]) fun _ _ _ _ _ _ us hl => match us, hl with | [_], _ => rfl
  F_Wallet_next_number := fun_mk (st := s_Wallet_next_number) l15 c15 k15
  mt_Wallet_next_number := ⟨a15, n15, k15⟩
  b_Wallet_next_number := (fun_mk (st := s_Wallet_next_number) l15 c15 k15).binds (ps := ["self"]) fun _ _ _ _ _ _ us hl => match us, hl with | [_], _ => rfl
  F_Wallet_order := fun_mk (st := s_Wallet_order) l16 c16 k16
  mt_Wallet_order := ⟨a16, n16, k16⟩
  b_Wallet_order := (fun_mk (st := s_Wallet_order) l16 c16 k16).binds (ps := ["self", "goal", "much"]) fun _ _ _ _ _ _ us hl => match us, hl with | [_, _, _], _ => rfl
  F__law_town := fun_mk (st := s__law_town) l17 c17 k17
  m__law_town := PySem.W.mg_of X G a17
  b__law_town := (fun_mk (st := s__law_town) l17 c17 k17).binds (ps := ["_law_script"]) fun _ _ _ _ _ _ us hl => match us, hl with | [_], _ => rfl
  F__law_draw := fun_mk (st := s__law_draw) l18 c18 k18
  m__law_draw := PySem.W.mg_of X G a18
  b__law_draw := (fun_mk (st := s__law_draw) l18 c18 k18).binds (ps := ["_law_town_here", "_law_many"]) fun _ _ _ _ _ _ us hl => match us, hl with | [_, _], _ => rfl
  F__law_pick := fun_mk (st := s__law_pick) l19 c19 k19
  m__law_pick := PySem.W.mg_of X G a19
  b__law_pick := (fun_mk (st := s__law_pick) l19 c19 k19).binds (ps := ["_law_town_here", "_law_some"]) fun _ _ _ _ _ _ us hl => match us, hl with | [_, _], _ => rfl
  F__law_refusal := fun_mk (st := s__law_refusal) l20 c20 k20
  m__law_refusal := PySem.W.mg_of X G a20
  b__law_refusal := (fun_mk (st := s__law_refusal) l20 c20 k20).binds (ps := ["_law_caught"]) fun _ _ _ _ _ _ us hl => match us, hl with | [_], _ => rfl
  F__law_made := fun_mk (st := s__law_made) l21 c21 k21
  m__law_made := PySem.W.mg_of X G a21
  b__law_made := (fun_mk (st := s__law_made) l21 c21 k21).binds (ps := ["_law_purse", "_law_begin", "_law_crew", "_law_some"]) fun _ _ _ _ _ _ us hl => match us, hl with | [_, _, _, _], _ => rfl
  F__law_asked := fun_mk (st := s__law_asked) l22 c22 k22
  m__law_asked := PySem.W.mg_of X G a22
  b__law_asked := (fun_mk (st := s__law_asked) l22 c22 k22).binds (ps := ["_law_shutet", "_law_kind", "_law_one", "_law_two"]) fun _ _ _ _ _ _ us hl => match us, hl with | [_, _, _, _], _ => rfl
  F_law := fun_mk (st := s_law) l23 c23 k23
  m_law := PySem.W.mg_of X G a23
  b_law := (fun_mk (st := s_law) l23 c23 k23).binds (ps := ["_law_script"]) fun _ _ _ _ _ _ us hl => match us, hl with | [_], _ => rfl
  c_MOST_MUCH := ⟨_, PySem.W.mg_of X G hgc0⟩
  c_LAST_NUMBER := ⟨_, PySem.W.mg_of X G hgc1⟩
  c_MOST_FIRST_SUM := ⟨_, PySem.W.mg_of X G hgc2⟩
  c_LEAST_PURSES := ⟨_, PySem.W.mg_of X G hgc3⟩
  c_MOST_HOUSES := ⟨_, PySem.W.mg_of X G hgc4⟩
  c_MOST_FEW := ⟨_, PySem.W.mg_of X G hgc5⟩
  m_Wallet := PySem.W.mg_of X G cm0
  cl_Wallet := ⟨cg0, ch0, co0, cs0⟩
  na_Wallet_purse := cn0_0
  na_Wallet_purses := cn0_1
  na_Wallet_houses := cn0_2
  na_Wallet_few := cn0_3
  na_Wallet_first := cn0_4
  na_Wallet_own := cn0_5
  na_Wallet_brought := cn0_6
  m_TooMuch := PySem.W.mg_of X G xm0
  m_BadNumber := PySem.W.mg_of X G xm1
  m_NoPurse := PySem.W.mg_of X G xm2
  m_BadPaper := PySem.W.mg_of X G xm3
  m_BadHouses := PySem.W.mg_of X G xm4
  m_PurseError := PySem.W.mg_of X G xm5
  m_BadCut := PySem.W.mg_of X G xm6
  m_BadText := PySem.W.mg_of X G xm7
  m_NotNow := PySem.W.mg_of X G xm8
  m_NoHouse := PySem.W.mg_of X G xm9
  m_NoLetter := PySem.W.mg_of X G xm10
  m_BadOrder := PySem.W.mg_of X G xm11
  x_TooMuch := xr0
  xi_TooMuch := ⟨xg0, xh0, xj0, xp0, xo0, xs0⟩
  xk_TooMuch := xk0
  xc_TooMuch_PurseError := xc0_0
  xc_TooMuch_NoPurse := xc0_1
  x_BadNumber := xr1
  xi_BadNumber := ⟨xg1, xh1, xj1, xp1, xo1, xs1⟩
  xk_BadNumber := xk1
  xc_BadNumber_PurseError := xc1_0
  xc_BadNumber_NoPurse := xc1_1
  xi_NoPurse := ⟨xg2, xh2, xj2, xp2, xo2, xs2⟩
  xk_NoPurse := xk2
  xc_NoPurse_PurseError := xc2_0
  xc_NoPurse_NoPurse := xc2_1
  x_BadPaper := xr3
  xi_BadPaper := ⟨xg3, xh3, xj3, xp3, xo3, xs3⟩
  xk_BadPaper := xk3
  xc_BadPaper_PurseError := xc3_0
  xc_BadPaper_NoPurse := xc3_1
  x_BadHouses := xr4
  xi_BadHouses := ⟨xg4, xh4, xj4, xp4, xo4, xs4⟩
  xk_BadHouses := xk4
  xc_BadHouses_PurseError := xc4_0
  xc_BadHouses_NoPurse := xc4_1
  be_PurseError := xb0
  be_NoPurse := xb1
  n_isinstance := PySem.W.mg_none_of X G z0
  n_bool := PySem.W.mg_none_of X G z1
  n_int := PySem.W.mg_none_of X G z2
  n_len := PySem.W.mg_none_of X G z3
  n_tuple := PySem.W.mg_none_of X G z4
  n_all := PySem.W.mg_none_of X G z5
  n_list := PySem.W.mg_none_of X G z6
  n_sum := PySem.W.mg_none_of X G z7
  n_ValueError := PySem.W.mg_none_of X G z8
  n_range := PySem.W.mg_none_of X G z9
theorem all_mk {l : PySem.W.OpenLaw} {w : World} {K : PySem.W.Frag} {h : Heap} {mg : Str → Option Value} {fa : Addr} (X : K.In h) (G : h.Ns mainGlobals mg) (hfa : mg "law" = some (.ref fa))
    {ca0 : Addr}
    {xa0 : Addr}
    {xa1 : Addr}
    {xa2 : Addr}
    {xa3 : Addr}
    {xa4 : Addr}
    {xa5 : Addr}
    {xa6 : Addr}
    {xa7 : Addr}
    {xa8 : Addr}
    {xa9 : Addr}
    {xa10 : Addr}
    {xa11 : Addr}
    {f0 : Addr} {oc0 kV0 dc0 pm0 cd0 ct0 : Value} {od0 an0 : Option Addr} {sl0 : Array (Option Value)}
    {f1 : Addr} {oc1 kV1 dc1 pm1 cd1 ct1 : Value} {od1 an1 : Option Addr} {sl1 : Array (Option Value)}
    {f2 : Addr} {oc2 kV2 dc2 pm2 cd2 ct2 : Value} {od2 an2 : Option Addr} {sl2 : Array (Option Value)}
    {f3 : Addr} {oc3 kV3 dc3 pm3 cd3 ct3 : Value} {od3 an3 : Option Addr} {sl3 : Array (Option Value)}
    {f4 : Addr} {oc4 kV4 dc4 pm4 cd4 ct4 : Value} {od4 an4 : Option Addr} {sl4 : Array (Option Value)}
    {f5 : Addr} {oc5 kV5 dc5 pm5 cd5 ct5 : Value} {od5 an5 : Option Addr} {sl5 : Array (Option Value)}
    {f6 : Addr} {oc6 kV6 dc6 pm6 cd6 ct6 : Value} {od6 an6 : Option Addr} {sl6 : Array (Option Value)}
    {f7 : Addr} {oc7 kV7 dc7 pm7 cd7 ct7 : Value} {od7 an7 : Option Addr} {sl7 : Array (Option Value)}
    {f8 : Addr} {oc8 kV8 dc8 pm8 cd8 ct8 : Value} {od8 an8 : Option Addr} {sl8 : Array (Option Value)}
    {f9 : Addr} {oc9 kV9 dc9 pm9 cd9 ct9 : Value} {od9 an9 : Option Addr} {sl9 : Array (Option Value)}
    {f10 : Addr} {oc10 kV10 dc10 pm10 cd10 ct10 : Value} {od10 an10 : Option Addr} {sl10 : Array (Option Value)}
    {f11 : Addr} {oc11 kV11 dc11 pm11 cd11 ct11 : Value} {od11 an11 : Option Addr} {sl11 : Array (Option Value)}
    {f12 : Addr} {oc12 kV12 dc12 pm12 cd12 ct12 : Value} {od12 an12 : Option Addr} {sl12 : Array (Option Value)}
    {f13 : Addr} {oc13 kV13 dc13 pm13 cd13 ct13 : Value} {od13 an13 : Option Addr} {sl13 : Array (Option Value)}
    {f14 : Addr} {oc14 kV14 dc14 pm14 cd14 ct14 : Value} {od14 an14 : Option Addr} {sl14 : Array (Option Value)}
    {f15 : Addr} {oc15 kV15 dc15 pm15 cd15 ct15 : Value} {od15 an15 : Option Addr} {sl15 : Array (Option Value)}
    {f16 : Addr} {oc16 kV16 dc16 pm16 cd16 ct16 : Value} {od16 an16 : Option Addr} {sl16 : Array (Option Value)}
    {f17 : Addr} {oc17 kV17 dc17 pm17 cd17 ct17 : Value} {od17 an17 : Option Addr} {sl17 : Array (Option Value)}
    {f18 : Addr} {oc18 kV18 dc18 pm18 cd18 ct18 : Value} {od18 an18 : Option Addr} {sl18 : Array (Option Value)}
    {f19 : Addr} {oc19 kV19 dc19 pm19 cd19 ct19 : Value} {od19 an19 : Option Addr} {sl19 : Array (Option Value)}
    {f20 : Addr} {oc20 kV20 dc20 pm20 cd20 ct20 : Value} {od20 an20 : Option Addr} {sl20 : Array (Option Value)}
    {f21 : Addr} {oc21 kV21 dc21 pm21 cd21 ct21 : Value} {od21 an21 : Option Addr} {sl21 : Array (Option Value)}
    {f22 : Addr} {oc22 kV22 dc22 pm22 cd22 ct22 : Value} {od22 an22 : Option Addr} {sl22 : Array (Option Value)}
    {f23 : Addr} {oc23 kV23 dc23 pm23 cd23 ct23 : Value} {od23 an23 : Option Addr} {sl23 : Array (Option Value)}
    {gt0 : Tok}
    {gt1 : Tok}
    {gt2 : Tok}
    {gt3 : Tok}
    {gt4 : Tok}
    {gt5 : Tok}
    (cm0 : PySem.W.nsIn K mainGlobals "Wallet" = some (some (.ref ca0)))
    (cg0 : PySem.W.plainGet K ca0 Str.empty = true) (ch0 : PySem.W.hasDictIn K ca0 = true) (co0 : PySem.W.plainOver K ca0 = true) (cs0 : PySem.W.findIn K (.ref ca0) "__setattr__" = some (some (.builtin "object.__setattr__")))
    (cn0_0 : PySem.W.findIn K (.ref ca0) "purse" = some none)
    (cn0_1 : PySem.W.findIn K (.ref ca0) "purses" = some none)
    (cn0_2 : PySem.W.findIn K (.ref ca0) "houses" = some none)
    (cn0_3 : PySem.W.findIn K (.ref ca0) "few" = some none)
    (cn0_4 : PySem.W.findIn K (.ref ca0) "first" = some none)
    (cn0_5 : PySem.W.findIn K (.ref ca0) "own" = some none)
    (cn0_6 : PySem.W.findIn K (.ref ca0) "brought" = some none)
    (xm0 : PySem.W.nsIn K mainGlobals "TooMuch" = some (some (.ref xa0)))
    (xm1 : PySem.W.nsIn K mainGlobals "BadNumber" = some (some (.ref xa1)))
    (xm2 : PySem.W.nsIn K mainGlobals "NoPurse" = some (some (.ref xa2)))
    (xm3 : PySem.W.nsIn K mainGlobals "BadPaper" = some (some (.ref xa3)))
    (xm4 : PySem.W.nsIn K mainGlobals "BadHouses" = some (some (.ref xa4)))
    (xm5 : PySem.W.nsIn K mainGlobals "PurseError" = some (some (.ref xa5)))
    (xm6 : PySem.W.nsIn K mainGlobals "BadCut" = some (some (.ref xa6)))
    (xm7 : PySem.W.nsIn K mainGlobals "BadText" = some (some (.ref xa7)))
    (xm8 : PySem.W.nsIn K mainGlobals "NotNow" = some (some (.ref xa8)))
    (xm9 : PySem.W.nsIn K mainGlobals "NoHouse" = some (some (.ref xa9)))
    (xm10 : PySem.W.nsIn K mainGlobals "NoLetter" = some (some (.ref xa10)))
    (xm11 : PySem.W.nsIn K mainGlobals "BadOrder" = some (some (.ref xa11)))
    (a0 : PySem.W.nsIn K mainGlobals "is_whole" = some (some (.ref f0)))
    (l0 : K.lookup f0 = some ⟨oc0, od0, .func (PySem.W.fnOf "is_whole" "is_whole" (defArgs s_is_whole) (defBody s_is_whole) (defScope s_is_whole) .none kV0 dc0 pm0 an0 cd0 ct0), sl0⟩)
    (c0 : PySem.W.codeIn K cd0 "is_whole" = true) (k0 : PySem.W.keepIn K (.ref f0) = true)
    (a1 : PySem.W.nsIn K mainGlobals "is_between" = some (some (.ref f1)))
    (l1 : K.lookup f1 = some ⟨oc1, od1, .func (PySem.W.fnOf "is_between" "is_between" (defArgs s_is_between) (defBody s_is_between) (defScope s_is_between) .none kV1 dc1 pm1 an1 cd1 ct1), sl1⟩)
    (c1 : PySem.W.codeIn K cd1 "is_between" = true) (k1 : PySem.W.keepIn K (.ref f1) = true)
    (a2 : PySem.W.nsIn K mainGlobals "is_order" = some (some (.ref f2)))
    (l2 : K.lookup f2 = some ⟨oc2, od2, .func (PySem.W.fnOf "is_order" "is_order" (defArgs s_is_order) (defBody s_is_order) (defScope s_is_order) .none kV2 dc2 pm2 an2 cd2 ct2), sl2⟩)
    (c2 : PySem.W.codeIn K cd2 "is_order" = true) (k2 : PySem.W.keepIn K (.ref f2) = true)
    (a3 : PySem.W.nsIn K mainGlobals "are_rising" = some (some (.ref f3)))
    (l3 : K.lookup f3 = some ⟨oc3, od3, .func (PySem.W.fnOf "are_rising" "are_rising" (defArgs s_are_rising) (defBody s_are_rising) (defScope s_are_rising) .none kV3 dc3 pm3 an3 cd3 ct3), sl3⟩)
    (c3 : PySem.W.codeIn K cd3 "are_rising" = true) (k3 : PySem.W.keepIn K (.ref f3) = true)
    (a4 : PySem.W.nsIn K mainGlobals "enough_of" = some (some (.ref f4)))
    (l4 : K.lookup f4 = some ⟨oc4, od4, .func (PySem.W.fnOf "enough_of" "enough_of" (defArgs s_enough_of) (defBody s_enough_of) (defScope s_enough_of) .none kV4 dc4 pm4 an4 cd4 ct4), sl4⟩)
    (c4 : PySem.W.codeIn K cd4 "enough_of" = true) (k4 : PySem.W.keepIn K (.ref f4) = true)
    (a5 : PySem.W.nsIn K mainGlobals "checked" = some (some (.ref f5)))
    (l5 : K.lookup f5 = some ⟨oc5, od5, .func (PySem.W.fnOf "checked" "checked" (defArgs s_checked) (defBody s_checked) (defScope s_checked) .none kV5 dc5 pm5 an5 cd5 ct5), sl5⟩)
    (c5 : PySem.W.codeIn K cd5 "checked" = true) (k5 : PySem.W.keepIn K (.ref f5) = true)
    (a6 : PySem.W.nsIn K mainGlobals "is_house_count" = some (some (.ref f6)))
    (l6 : K.lookup f6 = some ⟨oc6, od6, .func (PySem.W.fnOf "is_house_count" "is_house_count" (defArgs s_is_house_count) (defBody s_is_house_count) (defScope s_is_house_count) .none kV6 dc6 pm6 an6 cd6 ct6), sl6⟩)
    (c6 : PySem.W.codeIn K cd6 "is_house_count" = true) (k6 : PySem.W.keepIn K (.ref f6) = true)
    (a7 : PySem.W.nsIn K mainGlobals "is_few" = some (some (.ref f7)))
    (l7 : K.lookup f7 = some ⟨oc7, od7, .func (PySem.W.fnOf "is_few" "is_few" (defArgs s_is_few) (defBody s_is_few) (defScope s_is_few) .none kV7 dc7 pm7 an7 cd7 ct7), sl7⟩)
    (c7 : PySem.W.codeIn K cd7 "is_few" = true) (k7 : PySem.W.keepIn K (.ref f7) = true)
    (a8 : PySem.W.nsIn K mainGlobals "are_sums" = some (some (.ref f8)))
    (l8 : K.lookup f8 = some ⟨oc8, od8, .func (PySem.W.fnOf "are_sums" "are_sums" (defArgs s_are_sums) (defBody s_are_sums) (defScope s_are_sums) .none kV8 dc8 pm8 an8 cd8 ct8), sl8⟩)
    (c8 : PySem.W.codeIn K cd8 "are_sums" = true) (k8 : PySem.W.keepIn K (.ref f8) = true)
    (a9 : PySem.W.findIn K (.ref xa2) "__init__" = some (some (.ref f9)))
    (l9 : K.lookup f9 = some ⟨oc9, od9, .func (PySem.W.fnOf "__init__" "NoPurse.__init__" (defArgs s_NoPurse___init__) (defBody s_NoPurse___init__) (defScope s_NoPurse___init__) .none kV9 dc9 pm9 an9 cd9 ct9), sl9⟩)
    (c9 : PySem.W.codeIn K cd9 "NoPurse.__init__" = true) (k9 : PySem.W.keepIn K (.ref f9) = true)
    (xrn9 : initIn K xa2 f9 = true) (xd9a : PySem.W.findIn K (.ref xa2) "__setattr__" = some (some (.builtin "object.__setattr__"))) (xd9b : PySem.W.findIn K (.ref xa2) "__getattribute__" = some (some (.builtin "BaseException.__getattribute__"))) (xd9c : PySem.W.findIn K (.ref xa2) "__getattr__" = some none) (xd9d : PySem.W.findIn K (.ref xa2) "purse" = some none)
    (a10 : PySem.W.nsIn K mainGlobals "put_new" = some (some (.ref f10)))
    (l10 : K.lookup f10 = some ⟨oc10, od10, .func (PySem.W.fnOf "put_new" "put_new" (defArgs s_put_new) (defBody s_put_new) (defScope s_put_new) .none kV10 dc10 pm10 an10 cd10 ct10), sl10⟩)
    (c10 : PySem.W.codeIn K cd10 "put_new" = true) (k10 : PySem.W.keepIn K (.ref f10) = true)
    (a11 : PySem.W.nsIn K mainGlobals "sum_of" = some (some (.ref f11)))
    (l11 : K.lookup f11 = some ⟨oc11, od11, .func (PySem.W.fnOf "sum_of" "sum_of" (defArgs s_sum_of) (defBody s_sum_of) (defScope s_sum_of) .none kV11 dc11 pm11 an11 cd11 ct11), sl11⟩)
    (c11 : PySem.W.codeIn K cd11 "sum_of" = true) (k11 : PySem.W.keepIn K (.ref f11) = true)
    (a12 : PySem.W.findIn K (.ref ca0) "__init__" = some (some (.ref f12))) (n12 : PySem.W.isFn K (.ref f12) = true)
    (mk12 : PySem.W.makesIn K ca0 = true) (mq12 : PySem.W.keepIn K (.ref ca0) = true)
    (l12 : K.lookup f12 = some ⟨oc12, od12, .func (PySem.W.fnOf "__init__" "Wallet.__init__" (defArgs s_Wallet___init__) (defBody s_Wallet___init__) (defScope s_Wallet___init__) .none kV12 dc12 pm12 an12 cd12 ct12), sl12⟩)
    (c12 : PySem.W.codeIn K cd12 "Wallet.__init__" = true) (k12 : PySem.W.keepIn K (.ref f12) = true)
    (a13 : PySem.W.findIn K (.ref ca0) "add" = some (some (.ref f13))) (n13 : PySem.W.isFn K (.ref f13) = true)
    (l13 : K.lookup f13 = some ⟨oc13, od13, .func (PySem.W.fnOf "add" "Wallet.add" (defArgs s_Wallet_add) (defBody s_Wallet_add) (defScope s_Wallet_add) .none kV13 dc13 pm13 an13 cd13 ct13), sl13⟩)
    (c13 : PySem.W.codeIn K cd13 "Wallet.add" = true) (k13 : PySem.W.keepIn K (.ref f13) = true)
    (a14 : PySem.W.findIn K (.ref ca0) "has" = some (some (.ref f14))) (n14 : PySem.W.isFn K (.ref f14) = true)
    (l14 : K.lookup f14 = some ⟨oc14, od14, .func (PySem.W.fnOf "has" "Wallet.has" (defArgs s_Wallet_has) (defBody s_Wallet_has) (defScope s_Wallet_has) .none kV14 dc14 pm14 an14 cd14 ct14), sl14⟩)
    (c14 : PySem.W.codeIn K cd14 "Wallet.has" = true) (k14 : PySem.W.keepIn K (.ref f14) = true)
    (a15 : PySem.W.findIn K (.ref ca0) "next_number" = some (some (.ref f15))) (n15 : PySem.W.isFn K (.ref f15) = true)
    (l15 : K.lookup f15 = some ⟨oc15, od15, .func (PySem.W.fnOf "next_number" "Wallet.next_number" (defArgs s_Wallet_next_number) (defBody s_Wallet_next_number) (defScope s_Wallet_next_number) .none kV15 dc15 pm15 an15 cd15 ct15), sl15⟩)
    (c15 : PySem.W.codeIn K cd15 "Wallet.next_number" = true) (k15 : PySem.W.keepIn K (.ref f15) = true)
    (a16 : PySem.W.findIn K (.ref ca0) "order" = some (some (.ref f16))) (n16 : PySem.W.isFn K (.ref f16) = true)
    (l16 : K.lookup f16 = some ⟨oc16, od16, .func (PySem.W.fnOf "order" "Wallet.order" (defArgs s_Wallet_order) (defBody s_Wallet_order) (defScope s_Wallet_order) .none kV16 dc16 pm16 an16 cd16 ct16), sl16⟩)
    (c16 : PySem.W.codeIn K cd16 "Wallet.order" = true) (k16 : PySem.W.keepIn K (.ref f16) = true)
    (a17 : PySem.W.nsIn K mainGlobals "_law_town" = some (some (.ref f17)))
    (l17 : K.lookup f17 = some ⟨oc17, od17, .func (PySem.W.fnOf "_law_town" "_law_town" (defArgs s__law_town) (defBody s__law_town) (defScope s__law_town) .none kV17 dc17 pm17 an17 cd17 ct17), sl17⟩)
    (c17 : PySem.W.codeIn K cd17 "_law_town" = true) (k17 : PySem.W.keepIn K (.ref f17) = true)
    (a18 : PySem.W.nsIn K mainGlobals "_law_draw" = some (some (.ref f18)))
    (l18 : K.lookup f18 = some ⟨oc18, od18, .func (PySem.W.fnOf "_law_draw" "_law_draw" (defArgs s__law_draw) (defBody s__law_draw) (defScope s__law_draw) .none kV18 dc18 pm18 an18 cd18 ct18), sl18⟩)
    (c18 : PySem.W.codeIn K cd18 "_law_draw" = true) (k18 : PySem.W.keepIn K (.ref f18) = true)
    (a19 : PySem.W.nsIn K mainGlobals "_law_pick" = some (some (.ref f19)))
    (l19 : K.lookup f19 = some ⟨oc19, od19, .func (PySem.W.fnOf "_law_pick" "_law_pick" (defArgs s__law_pick) (defBody s__law_pick) (defScope s__law_pick) .none kV19 dc19 pm19 an19 cd19 ct19), sl19⟩)
    (c19 : PySem.W.codeIn K cd19 "_law_pick" = true) (k19 : PySem.W.keepIn K (.ref f19) = true)
    (a20 : PySem.W.nsIn K mainGlobals "_law_refusal" = some (some (.ref f20)))
    (l20 : K.lookup f20 = some ⟨oc20, od20, .func (PySem.W.fnOf "_law_refusal" "_law_refusal" (defArgs s__law_refusal) (defBody s__law_refusal) (defScope s__law_refusal) .none kV20 dc20 pm20 an20 cd20 ct20), sl20⟩)
    (c20 : PySem.W.codeIn K cd20 "_law_refusal" = true) (k20 : PySem.W.keepIn K (.ref f20) = true)
    (a21 : PySem.W.nsIn K mainGlobals "_law_made" = some (some (.ref f21)))
    (l21 : K.lookup f21 = some ⟨oc21, od21, .func (PySem.W.fnOf "_law_made" "_law_made" (defArgs s__law_made) (defBody s__law_made) (defScope s__law_made) .none kV21 dc21 pm21 an21 cd21 ct21), sl21⟩)
    (c21 : PySem.W.codeIn K cd21 "_law_made" = true) (k21 : PySem.W.keepIn K (.ref f21) = true)
    (a22 : PySem.W.nsIn K mainGlobals "_law_asked" = some (some (.ref f22)))
    (l22 : K.lookup f22 = some ⟨oc22, od22, .func (PySem.W.fnOf "_law_asked" "_law_asked" (defArgs s__law_asked) (defBody s__law_asked) (defScope s__law_asked) .none kV22 dc22 pm22 an22 cd22 ct22), sl22⟩)
    (c22 : PySem.W.codeIn K cd22 "_law_asked" = true) (k22 : PySem.W.keepIn K (.ref f22) = true)
    (a23 : PySem.W.nsIn K mainGlobals "law" = some (some (.ref f23)))
    (l23 : K.lookup f23 = some ⟨oc23, od23, .func (PySem.W.fnOf "law" "law" (defArgs s_law) (defBody s_law) (defScope s_law) .none kV23 dc23 pm23 an23 cd23 ct23), sl23⟩)
    (c23 : PySem.W.codeIn K cd23 "law" = true) (k23 : PySem.W.keepIn K (.ref f23) = true)
    (hgc0 : PySem.W.nsIn K mainGlobals "MOST_MUCH" = some (some (.int 1000 gt0)))
    (hgc1 : PySem.W.nsIn K mainGlobals "LAST_NUMBER" = some (some (.int 99 gt1)))
    (hgc2 : PySem.W.nsIn K mainGlobals "MOST_FIRST_SUM" = some (some (.int 1000 gt2)))
    (hgc3 : PySem.W.nsIn K mainGlobals "LEAST_PURSES" = some (some (.int 2 gt3)))
    (hgc4 : PySem.W.nsIn K mainGlobals "MOST_HOUSES" = some (some (.int 16 gt4)))
    (hgc5 : PySem.W.nsIn K mainGlobals "MOST_FEW" = some (some (.int 5 gt5)))
    (xr0 : PySem.W.excIn K xa0 vErr "ValueError.__new__" = true)
    (xg0 : PySem.W.findIn K (.ref xa0) "__getattribute__" = some (some (.builtin "BaseException.__getattribute__"))) (xh0 : PySem.W.findIn K (.ref xa0) "__getattr__" = some none) (xj0 : PySem.W.findIn K (.ref xa0) "__class__" = some (some (.builtin "object.__class__")))
    (xp0 : PySem.W.mroIn K xa0 (.type "BaseException") = some true) (xo0 : PySem.W.mroIn K xa0 (.type "object") = some true) (xs0 : (PySem.W.clsIn K xa0).isSome = true)
    (xk0 : kinds K (.ref xa0) [.ref xa1, .ref xa11, .ref xa4, .ref xa9, .ref xa2, .ref xa10, .ref xa8, .ref xa0, .ref xa3, .ref xa6, .ref xa7, .ref xa5, .type "ValueError"] = [some false, some false, some false, some false, some false, some false, some false, some true, some false, some false, some false, some true, some true])
    (xc0_0 : PySem.W.kitCls K (.ref xa0) (.ref xa5) = some true)
    (xc0_1 : PySem.W.kitCls K (.ref xa0) (.ref xa2) = some false)
    (xr1 : PySem.W.excIn K xa1 vErr "ValueError.__new__" = true)
    (xg1 : PySem.W.findIn K (.ref xa1) "__getattribute__" = some (some (.builtin "BaseException.__getattribute__"))) (xh1 : PySem.W.findIn K (.ref xa1) "__getattr__" = some none) (xj1 : PySem.W.findIn K (.ref xa1) "__class__" = some (some (.builtin "object.__class__")))
    (xp1 : PySem.W.mroIn K xa1 (.type "BaseException") = some true) (xo1 : PySem.W.mroIn K xa1 (.type "object") = some true) (xs1 : (PySem.W.clsIn K xa1).isSome = true)
    (xk1 : kinds K (.ref xa1) [.ref xa1, .ref xa11, .ref xa4, .ref xa9, .ref xa2, .ref xa10, .ref xa8, .ref xa0, .ref xa3, .ref xa6, .ref xa7, .ref xa5, .type "ValueError"] = [some true, some false, some false, some false, some false, some false, some false, some false, some false, some false, some false, some true, some true])
    (xc1_0 : PySem.W.kitCls K (.ref xa1) (.ref xa5) = some true)
    (xc1_1 : PySem.W.kitCls K (.ref xa1) (.ref xa2) = some false)
    (xg2 : PySem.W.findIn K (.ref xa2) "__getattribute__" = some (some (.builtin "BaseException.__getattribute__"))) (xh2 : PySem.W.findIn K (.ref xa2) "__getattr__" = some none) (xj2 : PySem.W.findIn K (.ref xa2) "__class__" = some (some (.builtin "object.__class__")))
    (xp2 : PySem.W.mroIn K xa2 (.type "BaseException") = some true) (xo2 : PySem.W.mroIn K xa2 (.type "object") = some true) (xs2 : (PySem.W.clsIn K xa2).isSome = true)
    (xk2 : kinds K (.ref xa2) [.ref xa1, .ref xa11, .ref xa4, .ref xa9, .ref xa2, .ref xa10, .ref xa8, .ref xa0, .ref xa3, .ref xa6, .ref xa7, .ref xa5, .type "ValueError"] = [some false, some false, some false, some false, some true, some false, some false, some false, some false, some false, some false, some true, some true])
    (xc2_0 : PySem.W.kitCls K (.ref xa2) (.ref xa5) = some true)
    (xc2_1 : PySem.W.kitCls K (.ref xa2) (.ref xa2) = some true)
    (xr3 : PySem.W.excIn K xa3 vErr "ValueError.__new__" = true)
    (xg3 : PySem.W.findIn K (.ref xa3) "__getattribute__" = some (some (.builtin "BaseException.__getattribute__"))) (xh3 : PySem.W.findIn K (.ref xa3) "__getattr__" = some none) (xj3 : PySem.W.findIn K (.ref xa3) "__class__" = some (some (.builtin "object.__class__")))
    (xp3 : PySem.W.mroIn K xa3 (.type "BaseException") = some true) (xo3 : PySem.W.mroIn K xa3 (.type "object") = some true) (xs3 : (PySem.W.clsIn K xa3).isSome = true)
    (xk3 : kinds K (.ref xa3) [.ref xa1, .ref xa11, .ref xa4, .ref xa9, .ref xa2, .ref xa10, .ref xa8, .ref xa0, .ref xa3, .ref xa6, .ref xa7, .ref xa5, .type "ValueError"] = [some false, some false, some false, some false, some false, some false, some false, some false, some true, some false, some false, some true, some true])
    (xc3_0 : PySem.W.kitCls K (.ref xa3) (.ref xa5) = some true)
    (xc3_1 : PySem.W.kitCls K (.ref xa3) (.ref xa2) = some false)
    (xr4 : PySem.W.excIn K xa4 vErr "ValueError.__new__" = true)
    (xg4 : PySem.W.findIn K (.ref xa4) "__getattribute__" = some (some (.builtin "BaseException.__getattribute__"))) (xh4 : PySem.W.findIn K (.ref xa4) "__getattr__" = some none) (xj4 : PySem.W.findIn K (.ref xa4) "__class__" = some (some (.builtin "object.__class__")))
    (xp4 : PySem.W.mroIn K xa4 (.type "BaseException") = some true) (xo4 : PySem.W.mroIn K xa4 (.type "object") = some true) (xs4 : (PySem.W.clsIn K xa4).isSome = true)
    (xk4 : kinds K (.ref xa4) [.ref xa1, .ref xa11, .ref xa4, .ref xa9, .ref xa2, .ref xa10, .ref xa8, .ref xa0, .ref xa3, .ref xa6, .ref xa7, .ref xa5, .type "ValueError"] = [some false, some false, some true, some false, some false, some false, some false, some false, some false, some false, some false, some true, some true])
    (xc4_0 : PySem.W.kitCls K (.ref xa4) (.ref xa5) = some true)
    (xc4_1 : PySem.W.kitCls K (.ref xa4) (.ref xa2) = some false)
    (xb0 : PySem.W.mroIn K xa5 (.type "BaseException") = some true)
    (xb1 : PySem.W.mroIn K xa2 (.type "BaseException") = some true)
    (z0 : PySem.W.nsIn K mainGlobals "isinstance" = some none)
    (z1 : PySem.W.nsIn K mainGlobals "bool" = some none)
    (z2 : PySem.W.nsIn K mainGlobals "int" = some none)
    (z3 : PySem.W.nsIn K mainGlobals "len" = some none)
    (z4 : PySem.W.nsIn K mainGlobals "tuple" = some none)
    (z5 : PySem.W.nsIn K mainGlobals "all" = some none)
    (z6 : PySem.W.nsIn K mainGlobals "list" = some none)
    (z7 : PySem.W.nsIn K mainGlobals "sum" = some none)
    (z8 : PySem.W.nsIn K mainGlobals "ValueError" = some none)
    (z9 : PySem.W.nsIn K mainGlobals "range" = some none) :
    ∃ fd : FuncData, (∀ (s : Shared) (v : Value), BindsTo s fd ⟨[v], []⟩ [("_law_script", v)]) ∧ ∀ base : Heap, K.In base → base.Ns mainGlobals mg → FnOk l.prog w K mg base CX0 12 fa fd ["_law_script"] (sp_law K) := by
  have T := txt_mk X G cm0 cg0 ch0 co0 cs0 cn0_0 cn0_1 cn0_2 cn0_3 cn0_4 cn0_5 cn0_6 xm0 xm1 xm2 xm3 xm4 xm5 xm6 xm7 xm8 xm9 xm10 xm11 a0 l0 c0 k0 a1 l1 c1 k1 a2 l2 c2 k2 a3 l3 c3 k3 a4 l4 c4 k4 a5 l5 c5 k5 a6 l6 c6 k6 a7 l7 c7 k7 a8 l8 c8 k8 a9 l9 c9 k9 xrn9 xd9a xd9b xd9c xd9d a10 l10 c10 k10 a11 l11 c11 k11 a12 n12 mk12 mq12 l12 c12 k12 a13 n13 l13 c13 k13 a14 n14 l14 c14 k14 a15 n15 l15 c15 k15 a16 n16 l16 c16 k16 a17 l17 c17 k17 a18 l18 c18 k18 a19 l19 c19 k19 a20 l20 c20 k20 a21 l21 c21 k21 a22 l22 c22 k22 a23 l23 c23 k23 hgc0 hgc1 hgc2 hgc3 hgc4 hgc5 xr0 xg0 xh0 xj0 xp0 xo0 xs0 xk0 xc0_0 xc0_1 xr1 xg1 xh1 xj1 xp1 xo1 xs1 xk1 xc1_0 xc1_1 xg2 xh2 xj2 xp2 xo2 xs2 xk2 xc2_0 xc2_1 xr3 xg3 xh3 xj3 xp3 xo3 xs3 xk3 xc3_0 xc3_1 xr4 xg4 xh4 xj4 xp4 xo4 xs4 xk4 xc4_0 xc4_1 xb0 xb1 z0 z1 z2 z3 z4 z5 z6 z7 z8 z9
  have e := hfa.symm.trans T.m_law
  cases e
  exact ⟨_, fun s v => .of_eq rfl, fun base _ _ => ok_law T⟩
end M
/-! The hand-in's compiled file may not be greater than 64 MB. The head makes, beside the heaps and trees that it writes out, second ones that this proof doesn't use, and proofs that grow with the square of their objects; these names, taken ahead, keep it from that. -/
def PySem.W.Fast.tw17797157646817114381 : Unit := ()
def PySem.W.Fast.tw15237462127666724245 : Unit := ()
def PySem.W.Fast.tw14463997990028170598 : Unit := ()
def PySem.W.Fast.tw17739251651711617057 : Unit := ()
def PySem.W.Fast.tw6378717483953879028 : Unit := ()
def PySem.W.Fast.tw10682611906479970569 : Unit := ()
def PySem.W.Fast.tw3046631974136937696 : Unit := ()
def PySem.W.Fast.tw11182580447013191479 : Unit := ()
def PySem.W.Fast.tw2916709670272871174 : Unit := ()
def PySem.W.Fast.tw10311253654968705877 : Unit := ()
def PySem.W.Fast.tw4844252165657502335 : Unit := ()
def PySem.W.Fast.tw12758620396214277315 : Unit := ()
def PySem.W.Fast.tw2430278114868098106 : Unit := ()
def PySem.W.Fast.tw15262553275828849555 : Unit := ()
def PySem.W.Fast.tw3249334666107658256 : Unit := ()
def PySem.W.Fast.tw16924887734137619763 : Unit := ()
def PySem.W.Fast.tw2718594772485110855 : Unit := ()
open PySem PySem.W PyProof.Rows
set_option maxRecDepth 100000 in
set_option maxHeartbeats 0 in
theorem PySem.Challenge.cw_manypurses_k16_wallets_refused_holds : PySem.Challenge.rw_manypurses_k16_wallets_refused.Holds := by
  w_on; o_law; k_head; (case hw => w_witness2)
  k_fill
  refine L2.walk_ofK (l := PySem.Challenge.rw_manypurses_k16_wallets_refused) (n := 63) (k := 12) (x := "_law_script") (CX := L2.CX0) (sp := M.sp_law) rfl (by decide) rfl ⟨rfl, by decide, by decide⟩ (fun w h Y => PySem.W.kIn_of Y) ?F ?S ?C
  case F =>
    intro w mg fa h KX G hmg
    refine' M.all_mk KX G hmg ?cm0 ?cg0 ?ch0 ?co0 ?cs0 ?cn0_0 ?cn0_1 ?cn0_2 ?cn0_3 ?cn0_4 ?cn0_5 ?cn0_6 ?xm0 ?xm1 ?xm2 ?xm3 ?xm4 ?xm5 ?xm6 ?xm7 ?xm8 ?xm9 ?xm10 ?xm11 ?a0 ?l0 ?c0 ?k0 ?a1 ?l1 ?c1 ?k1 ?a2 ?l2 ?c2 ?k2 ?a3 ?l3 ?c3 ?k3 ?a4 ?l4 ?c4 ?k4 ?a5 ?l5 ?c5 ?k5 ?a6 ?l6 ?c6 ?k6 ?a7 ?l7 ?c7 ?k7 ?a8 ?l8 ?c8 ?k8 ?a9 ?l9 ?c9 ?k9 ?xrn9 ?xd9a ?xd9b ?xd9c ?xd9d ?a10 ?l10 ?c10 ?k10 ?a11 ?l11 ?c11 ?k11 ?a12 ?n12 ?mk12 ?mq12 ?l12 ?c12 ?k12 ?a13 ?n13 ?l13 ?c13 ?k13 ?a14 ?n14 ?l14 ?c14 ?k14 ?a15 ?n15 ?l15 ?c15 ?k15 ?a16 ?n16 ?l16 ?c16 ?k16 ?a17 ?l17 ?c17 ?k17 ?a18 ?l18 ?c18 ?k18 ?a19 ?l19 ?c19 ?k19 ?a20 ?l20 ?c20 ?k20 ?a21 ?l21 ?c21 ?k21 ?a22 ?l22 ?c22 ?k22 ?a23 ?l23 ?c23 ?k23 ?hgc0 ?hgc1 ?hgc2 ?hgc3 ?hgc4 ?hgc5 ?xr0 ?xg0 ?xh0 ?xj0 ?xp0 ?xo0 ?xs0 ?xk0 ?xc0_0 ?xc0_1 ?xr1 ?xg1 ?xh1 ?xj1 ?xp1 ?xo1 ?xs1 ?xk1 ?xc1_0 ?xc1_1 ?xg2 ?xh2 ?xj2 ?xp2 ?xo2 ?xs2 ?xk2 ?xc2_0 ?xc2_1 ?xr3 ?xg3 ?xh3 ?xj3 ?xp3 ?xo3 ?xs3 ?xk3 ?xc3_0 ?xc3_1 ?xr4 ?xg4 ?xh4 ?xj4 ?xp4 ?xo4 ?xs4 ?xk4 ?xc4_0 ?xc4_1 ?xb0 ?xb1 ?z0 ?z1 ?z2 ?z3 ?z4 ?z5 ?z6 ?z7 ?z8 ?z9
    (case cm0 => k_is)
    (case cg0 => k_is)
    (case ch0 => k_is)
    (case co0 => k_is)
    (case cs0 => k_is)
    (case cn0_0 => k_is)
    (case cn0_1 => k_is)
    (case cn0_2 => k_is)
    (case cn0_3 => k_is)
    (case cn0_4 => k_is)
    (case cn0_5 => k_is)
    (case cn0_6 => k_is)
    (case xm0 => k_is)
    (case xm1 => k_is)
    (case xm2 => k_is)
    (case xm3 => k_is)
    (case xm4 => k_is)
    (case xm5 => k_is)
    (case xm6 => k_is)
    (case xm7 => k_is)
    (case xm8 => k_is)
    (case xm9 => k_is)
    (case xm10 => k_is)
    (case xm11 => k_is)
    (case a0 => k_is)
    (case l0 => k_is)
    (case c0 => k_is)
    (case k0 => k_is)
    (case a1 => k_is)
    (case l1 => k_is)
    (case c1 => k_is)
    (case k1 => k_is)
    (case a2 => k_is)
    (case l2 => k_is)
    (case c2 => k_is)
    (case k2 => k_is)
    (case a3 => k_is)
    (case l3 => k_is)
    (case c3 => k_is)
    (case k3 => k_is)
    (case a4 => k_is)
    (case l4 => k_is)
    (case c4 => k_is)
    (case k4 => k_is)
    (case a5 => k_is)
    (case l5 => k_is)
    (case c5 => k_is)
    (case k5 => k_is)
    (case a6 => k_is)
    (case l6 => k_is)
    (case c6 => k_is)
    (case k6 => k_is)
    (case a7 => k_is)
    (case l7 => k_is)
    (case c7 => k_is)
    (case k7 => k_is)
    (case a8 => k_is)
    (case l8 => k_is)
    (case c8 => k_is)
    (case k8 => k_is)
    (case a9 => k_is)
    (case l9 => k_is)
    (case c9 => k_is)
    (case k9 => k_is)
    (case xrn9 => kernel_rfl)
    (case xd9a => k_is)
    (case xd9b => k_is)
    (case xd9c => k_is)
    (case xd9d => k_is)
    (case a10 => k_is)
    (case l10 => k_is)
    (case c10 => k_is)
    (case k10 => k_is)
    (case a11 => k_is)
    (case l11 => k_is)
    (case c11 => k_is)
    (case k11 => k_is)
    (case a12 => k_is)
    (case n12 => k_is)
    (case mk12 => k_is)
    (case mq12 => k_is)
    (case l12 => k_is)
    (case c12 => k_is)
    (case k12 => k_is)
    (case a13 => k_is)
    (case n13 => k_is)
    (case l13 => k_is)
    (case c13 => k_is)
    (case k13 => k_is)
    (case a14 => k_is)
    (case n14 => k_is)
    (case l14 => k_is)
    (case c14 => k_is)
    (case k14 => k_is)
    (case a15 => k_is)
    (case n15 => k_is)
    (case l15 => k_is)
    (case c15 => k_is)
    (case k15 => k_is)
    (case a16 => k_is)
    (case n16 => k_is)
    (case l16 => k_is)
    (case c16 => k_is)
    (case k16 => k_is)
    (case a17 => k_is)
    (case l17 => k_is)
    (case c17 => k_is)
    (case k17 => k_is)
    (case a18 => k_is)
    (case l18 => k_is)
    (case c18 => k_is)
    (case k18 => k_is)
    (case a19 => k_is)
    (case l19 => k_is)
    (case c19 => k_is)
    (case k19 => k_is)
    (case a20 => k_is)
    (case l20 => k_is)
    (case c20 => k_is)
    (case k20 => k_is)
    (case a21 => k_is)
    (case l21 => k_is)
    (case c21 => k_is)
    (case k21 => k_is)
    (case a22 => k_is)
    (case l22 => k_is)
    (case c22 => k_is)
    (case k22 => k_is)
    (case a23 => k_is)
    (case l23 => k_is)
    (case c23 => k_is)
    (case k23 => k_is)
    (case hgc0 => k_is)
    (case hgc1 => k_is)
    (case hgc2 => k_is)
    (case hgc3 => k_is)
    (case hgc4 => k_is)
    (case hgc5 => k_is)
    (case xr0 => kernel_rfl)
    (case xg0 => k_is)
    (case xh0 => k_is)
    (case xj0 => k_is)
    (case xp0 => k_is)
    (case xo0 => k_is)
    (case xs0 => kernel_rfl)
    (case xk0 => kernel_rfl)
    (case xc0_0 => kernel_rfl)
    (case xc0_1 => kernel_rfl)
    (case xr1 => kernel_rfl)
    (case xg1 => k_is)
    (case xh1 => k_is)
    (case xj1 => k_is)
    (case xp1 => k_is)
    (case xo1 => k_is)
    (case xs1 => kernel_rfl)
    (case xk1 => kernel_rfl)
    (case xc1_0 => kernel_rfl)
    (case xc1_1 => kernel_rfl)
    (case xg2 => k_is)
    (case xh2 => k_is)
    (case xj2 => k_is)
    (case xp2 => k_is)
    (case xo2 => k_is)
    (case xs2 => kernel_rfl)
    (case xk2 => kernel_rfl)
    (case xc2_0 => kernel_rfl)
    (case xc2_1 => kernel_rfl)
    (case xr3 => kernel_rfl)
    (case xg3 => k_is)
    (case xh3 => k_is)
    (case xj3 => k_is)
    (case xp3 => k_is)
    (case xo3 => k_is)
    (case xs3 => kernel_rfl)
    (case xk3 => kernel_rfl)
    (case xc3_0 => kernel_rfl)
    (case xc3_1 => kernel_rfl)
    (case xr4 => kernel_rfl)
    (case xg4 => k_is)
    (case xh4 => k_is)
    (case xj4 => k_is)
    (case xp4 => k_is)
    (case xo4 => k_is)
    (case xs4 => kernel_rfl)
    (case xk4 => kernel_rfl)
    (case xc4_0 => kernel_rfl)
    (case xc4_1 => kernel_rfl)
    (case xb0 => k_is)
    (case xb1 => k_is)
    (case z0 => k_is)
    (case z1 => k_is)
    (case z2 => k_is)
    (case z3 => k_is)
    (case z4 => k_is)
    (case z5 => k_is)
    (case z6 => k_is)
    (case z7 => k_is)
    (case z8 => k_is)
    (case z9 => k_is)
  case S => exact fun K H a ns hl _ hS => ⟨a, ns, rfl, hS, hl, fun _ => rfl⟩
  case C => exact fun _ _ _ _ z => z
