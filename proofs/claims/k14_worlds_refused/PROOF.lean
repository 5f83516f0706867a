import PyProof.Rows.All
import Wide.All
import OpenK.AllK
import Wide.FinOn
import Lean
import PyProof.EqAt
import PyProof.EqKinds
import PyProof.TupleCall
import PyProof.NeKinds
import PySem.Challenge.RW_manypurses_k14_worlds_refused
set_option Elab.async false
set_option linter.all false
set_option maxRecDepth 100000
namespace L2
open PySem PySem.Spec PyProof.Rows
abbrev Key := Sum Int Str
def keyIs : Key → Value → Bool
  | .inl k, v => Value.isInt k v
  | .inr x, v => Value.isStrOf x v
def keyH (w : World) : Key → Int
  | .inl k => hashInt k
  | .inr x => hashStr w x
theorem keyIs_shape : ∀ {k : Key} {v : Value}, keyIs k v = true → (∃ i t, k = Sum.inl i ∧ v = Value.int i t) ∨ (∃ x t, k = Sum.inr x ∧ v = Value.str x t)
  | .inl i, v, h => by
    obtain ⟨t, e⟩ := Value.isInt_shape (k := i) (v := v) h
    exact .inl ⟨i, t, rfl, e⟩
  | .inr x, v, h => by
    obtain ⟨t, e⟩ := Value.isStrOf_shape (x := x) (v := v) h
    exact .inr ⟨x, t, rfl, e⟩
theorem keyIs_int (i : Int) (t : Tok) : keyIs (.inl i) (.int i t) = true := by simp [keyIs, Value.isInt]
theorem keyIs_str (x : Str) (t : Tok) : keyIs (.inr x) (.str x t) = true := by simp [keyIs, Value.isStrOf]
theorem key_ll (a b : Int) : decide ((Sum.inl a : Key) = Sum.inl b) = (a == b) := by
  by_cases e : a = b
  · subst e; simp
  · have h : ¬ (Sum.inl a : Key) = Sum.inl b := fun q => e (Sum.inl.inj q)
    rw [decide_eq_false h]
    exact (beq_eq_false_iff_ne.mpr e).symm
theorem key_rr (a b : Str) : decide ((Sum.inr a : Key) = Sum.inr b) = decide (a = b) := by
  by_cases e : a = b
  · subst e; simp
  · have h : ¬ (Sum.inr a : Key) = Sum.inr b := fun q => e (Sum.inr.inj q)
    rw [decide_eq_false h, decide_eq_false e]
theorem key_lr (a : Int) (b : Str) : decide ((Sum.inl a : Key) = Sum.inr b) = false := decide_eq_false (fun q => nomatch q)
theorem key_rl (a : Str) (b : Int) : decide ((Sum.inr a : Key) = Sum.inl b) = false := decide_eq_false (fun q => nomatch q)
def mixKind (prog : Program) (w : World) : PySem.KeyKind prog w Key where
  is := keyIs
  hash := keyH w
  inj := fun v a b ha hb => by
    rcases keyIs_shape ha with ⟨i, t, rfl, rfl⟩ | ⟨x, t, rfl, rfl⟩
    · rcases keyIs_shape hb with ⟨j, u, rfl, e⟩ | ⟨y, u, rfl, e⟩
      · injection e with e1 _; rw [e1]
      · exact nomatch e
    · rcases keyIs_shape hb with ⟨j, u, rfl, e⟩ | ⟨y, u, rfl, e⟩
      · exact nomatch e
      · injection e with e1 _; rw [e1]
  byValue := fun k v h => by
    rcases keyIs_shape h with ⟨i, t, rfl, rfl⟩ | ⟨x, t, rfl, rfl⟩ <;> rfl
  pyHash := fun hv h => by
    rcases keyIs_shape hv with ⟨i, t, rfl, rfl⟩ | ⟨x, t, rfl, rfl⟩
    · exact wpAny_pyHash_int h
    · exact wpAny_pyHash_str h
  eqBool := fun hu hv h => by
    rcases keyIs_shape hu with ⟨i, t, rfl, rfl⟩ | ⟨x, t, rfl, rfl⟩
    · rcases keyIs_shape hv with ⟨j, u, rfl, rfl⟩ | ⟨y, u, rfl, rfl⟩
      · rw [key_ll] at h; exact wpAny_eqBool_int h
      · rw [key_lr] at h; exact SeqAt.EqAt.int_str i t y u _ _ _ _ h
    · rcases keyIs_shape hv with ⟨j, u, rfl, rfl⟩ | ⟨y, u, rfl, rfl⟩
      · rw [key_rl] at h; exact SeqAt.EqAt.str_int x t j u _ _ _ _ h
      · rw [key_rr] at h; exact wpAny_eqBool_str h
  «strs» := fun k x t v h => by
    rcases keyIs_shape h with ⟨i, u, rfl, e⟩ | ⟨y, u, rfl, e⟩
    · exact nomatch e
    · injection e with e1 _
      subst e1
      cases v <;> rfl
theorem mixKind_int (prog : Program) (w : World) (i : Int) (t : Tok) : (mixKind prog w).is (.inl i) (.int i t) = true := keyIs_int i t
theorem mixKind_str (prog : Program) (w : World) (x : Str) (t : Tok) : (mixKind prog w).is (.inr x) (.str x t) = true := keyIs_str x t
end L2
namespace L2
open PySem PySem.Spec PyProof.Rows
inductive V where
  | non | bl (b : Bool) | int (i : Int) | str (x : Str) | byt (b : Array UInt8) | flt (b : UInt64) | ref (a : Addr) | ty (n : String)
  deriving DecidableEq
def RelV : V → Value → Prop
  | .non, u => u = Value.none
  | .bl b, u => u = Value.bool b
  | .int i, u => ∃ t, u = Value.int i t
  | .str x, u => ∃ t, u = Value.str x t
  | .byt b, u => ∃ t, u = Value.bytes b t
  | .flt b, u => ∃ t, u = Value.float b t
  | .ref a, u => u = Value.ref a
  | .ty n, u => u = Value.type n
abbrev Vals : List V → List Value → Prop := Paired RelV
theorem Vals.length {xs : List V} {us : List Value} (r : Vals xs us) : xs.length = us.length := Paired.length r
theorem Vals.get : ∀ {xs : List V} {us : List Value} {i : Nat} {x : V}, Vals xs us → xs[i]? = some x → ∃ u, us[i]? = some u ∧ RelV x u
  | _, _, _, _, .nil, e => by simp at e
  | _, _, 0, _, .cons r _, e => by simp at e; subst e; exact ⟨_, rfl, r⟩
  | _, _, i + 1, x, .cons _ t, e => by
    obtain ⟨u, h1, h2⟩ := Vals.get (i := i) (x := x) t (by simpa using e)
    exact ⟨u, by simpa using h1, h2⟩
theorem Vals.set {x : V} {u : Value} (r : RelV x u) : ∀ {xs : List V} {us : List Value} (i : Nat), Vals xs us → Vals (xs.set i x) (us.set i u)
  | _, _, _, .nil => .nil
  | _, _, 0, .cons _ t => .cons r t
  | _, _, i + 1, .cons q t => .cons q (Vals.set r i t)
theorem Vals.append : ∀ {xs ys : List V} {us ws : List Value}, Vals xs us → Vals ys ws → Vals (xs ++ ys) (us ++ ws)
  | _, _, _, _, .nil, s => s
  | _, _, _, _, .cons r t, s => .cons r (Vals.append t s)
def RelO : Option V → Option Value → Prop
  | some v, some u => RelV v u
  | none, none => True
  | _, _ => False
def KV {κ : Type} : List (κ × V) → List (κ × Value) → Prop := Paired fun (p : κ × V) (q : κ × Value) => p.1 = q.1 ∧ RelV p.2 q.2
def kV : Key → V
  | .inl i => .int i
  | .inr x => .str x
inductive HO where
    | lst (xs : List V)
    | tup (xs : List V)
    | dK (kvs : List (Key × V)) | dT (kvs : List (List Key × V))
    | set (S : Int → Bool) (n : Nat)
    | ins (C dx : Addr) (fs : List (Str × V))
    | own (x : Addr)
    | xd (fs : List (Str × V))
    | met (f x : Addr)
    | rng (lo hi : Int)
    | frz (o : Obj) (u : HO)
    | tbl (ps : Array Value)
    | ext (φ : Heap → Prop)
abbrev Hp := Addr → Option HO
def upd (H : Hp) (a : Addr) (o : HO) : Hp := fun b => if b = a then some o else H b
theorem upd_same {H : Hp} {a : Addr} {o : HO} : upd H a o a = some o := by unfold upd; rw [if_pos rfl]
theorem upd_ne {H : Hp} {a b : Addr} {o : HO} (h : b ≠ a) : upd H a o b = H b := by unfold upd; rw [if_neg h]
theorem upd_upd {H : Hp} {a : Addr} {o u : HO} : upd (upd H a o) a u = upd H a u := by
  funext b; unfold upd; split <;> rfl
theorem ne_of {H : Hp} {a b : Addr} {o u : HO} (h : H a = some o) (h' : H b = some u) (d : o ≠ u) : a ≠ b := by
  intro e; subst e; rw [h] at h'; exact d (Option.some.inj h')
theorem ne_of_none {H : Hp} {a b : Addr} {o : HO} (h : H a = some o) (h' : H b = none) : a ≠ b := by
  intro e; subst e; rw [h] at h'; cases h'
section
variable (P : Program) (w : World)
def ObjOk (H : Hp) (h : Heap) (a : Addr) : HO → Prop
  | .lst xs => xs.length ≤ sizeLine ∧ ∃ (its : List Value) (n : Nat), Vals xs its ∧ h.get? a = some { cls := .type "list", data := .seq its.toArray n }
  | .tup xs => xs.length ≤ sizeLine ∧ ∃ its : List Value, Vals xs its ∧ IsTup h a its.toArray
  | .dK kvs => kvs.length ≤ sizeLine ∧ (a == sysModules) = false ∧ ∃ vs, KV kvs vs ∧ h.DictOf (mixKind P w) a vs
  | .dT kvs => kvs.length ≤ sizeLine ∧ (a == sysModules) = false ∧ ∃ xs : List (List Key × Addr × Value),
      Paired (fun (p : List Key × V) (q : List Key × Addr × Value) => p.1 = q.1 ∧ H q.2.1 = some (.tup (p.1.map kV)) ∧ RelV p.2 q.2.2) kvs xs ∧
      ∃ o es ep, h.get? a = some o ∧ o.ExactDict ∧ o.data = .dict es ep ∧ es.toList = xs.map (entryOfKey (tupleKind (mixKind P w))) ∧ (xs.map (·.1)).Nodup
  | .set S n => h.SetOf (intKind P w) a S n
  | .ins C dx fs => H dx = some (.own a) ∧ fs.length ≤ 1000 ∧ dx ≠ a ∧ h.get? a = some (PySem.W.instObj C dx) ∧
      ∃ mA, h.Ns1 dx mA ∧ (∀ f, RelO (fs.lookup f) (mA f)) ∧ PySem.Within mA (fs.map (·.1))
  | .own _ => ∃ o, h.get? a = some o
  | .xd fs => ∃ mA, h.Ns1 a mA ∧ ∀ f, RelO (fs.lookup f) (mA f)
  | .rng lo hi => ∃ t u v, h.get? a = some { cls := .type "range", data := .fields #[.int lo t, .int hi u, .int 1 v] }
  | .frz o u => h.get? a = some o ∧ ObjOk H h a u
  | .tbl ps => h.get? a = some { cls := .none, data := .fields ps }
  | .met f x => h.get? a = some (PySem.W.methodObj (.ref f) (.ref x))
  | .ext φ => φ h ∧ (∃ o, h.get? a = some o) ∧ ∀ h1 h2 : Heap, φ h1 → (∀ o, h1.get? a = some o → h2.get? a = some o) → φ h2
def HOk (H : Hp) (h : Heap) : Prop := ∀ a o, H a = some o → ObjOk P w H h a o
end
section
variable {P : Program} {w : World} {H H' : Hp} {h h' : Heap} {a : Addr} {o : HO}
theorem ObjOk.lt (x : ObjOk P w H h a o) : a < h.objs.size := by
  cases o with
  | lst xs => obtain ⟨_, _, _, _, e⟩ := x; exact Heap.lt_size e
  | tup xs => obtain ⟨_, _, _, p⟩ := x; exact p.lt
  | dK kvs => obtain ⟨_, _, _, _, o, _, _, e, _⟩ := x; exact Heap.lt_size e
  | dT kvs => obtain ⟨_, _, _, _, o, _, _, e, _⟩ := x; exact Heap.lt_size e
  | set S n => obtain ⟨o, _, _, _, e, _⟩ := x; exact Heap.lt_size e
  | ins C dx fs => obtain ⟨_, _, _, e, _⟩ := x; exact Heap.lt_size e
  | own y => obtain ⟨_, e⟩ := x; exact Heap.lt_size e
  | xd fs => obtain ⟨_, ⟨_, _, _, e, _⟩, _⟩ := x; exact Heap.lt_size e
  | rng lo hi => obtain ⟨_, _, _, e⟩ := x; exact Heap.lt_size e
  | frz ob u => obtain ⟨e, _⟩ := x; exact Heap.lt_size e
  | tbl ps => exact Heap.lt_size (show h.get? a = some _ from x)
  | met f y => exact Heap.lt_size (show h.get? a = some _ from x)
  | ext φ => obtain ⟨_, ⟨_, e⟩, _⟩ := x; exact Heap.lt_size e
theorem Paired.mapP {α β : Type} {F G : α → β → Prop} : ∀ {l₁ : List α} {l₂ : List β}, Paired F l₁ l₂ → (∀ a b, F a b → G a b) → Paired G l₁ l₂
  | _, _, .nil, _ => .nil
  | _, _, .cons r t, f => .cons (f _ _ r) (Paired.mapP t f)
theorem ObjOk.stay (x : ObjOk P w H h a o) (k : ∀ b u, (b = a ∨ H b = some (.own a)) → h.get? b = some u → h'.get? b = some u)
    (ho : ∀ b, H b = some (.own a) → H' b = some (.own a)) (ht : ∀ b xs, H b = some (.tup xs) → H' b = some (.tup xs)) : ObjOk P w H' h' a o := by
  induction o with
  | lst xs => obtain ⟨z, its, n, r, e⟩ := x; exact ⟨z, its, n, r, k _ _ (.inl rfl) e⟩
  | tup xs => obtain ⟨z, its, r, ob, e, c⟩ := x; exact ⟨z, its, r, ob, k _ _ (.inl rfl) e, c⟩
  | dK kvs => obtain ⟨z, y, vs, r, ob, es, ep, e, c⟩ := x; exact ⟨z, y, vs, r, ob, es, ep, k _ _ (.inl rfl) e, c⟩
  | dT kvs =>
    obtain ⟨z, y, xs, r, ob, es, ep, e, c⟩ := x
    exact ⟨z, y, xs, Paired.mapP r fun p q z => ⟨z.1, ht _ _ z.2.1, z.2.2⟩, ob, es, ep, k _ _ (.inl rfl) e, c⟩
  | set S n => obtain ⟨ob, es, ep, t, e, c⟩ := x; exact ⟨ob, es, ep, t, k _ _ (.inl rfl) e, c⟩
  | ins C dx fs =>
    obtain ⟨d, z, ne, e, mA, ⟨od, es, ep, e2, c⟩, r⟩ := x
    exact ⟨ho _ d, z, ne, k _ _ (.inl rfl) e, mA, ⟨od, es, ep, k _ _ (.inr d) e2, c⟩, r⟩
  | own y => obtain ⟨ob, e⟩ := x; exact ⟨ob, k _ _ (.inl rfl) e⟩
  | xd fs => obtain ⟨mA, ⟨od, es, ep, e, c⟩, r⟩ := x; exact ⟨mA, ⟨od, es, ep, k _ _ (.inl rfl) e, c⟩, r⟩
  | rng lo hi => obtain ⟨t, u, v, e⟩ := x; exact ⟨t, u, v, k _ _ (.inl rfl) e⟩
  | frz ob u ih => obtain ⟨e, q⟩ := x; exact ⟨k _ _ (.inl rfl) e, ih q⟩
  | tbl ps =>
    have e : h.get? a = some { cls := .none, data := .fields ps } := x
    show h'.get? a = some { cls := .none, data := .fields ps }
    exact k a _ (.inl rfl) e
  | met f y =>
    have e : h.get? a = some (PySem.W.methodObj (.ref f) (.ref y)) := x
    show h'.get? a = some (PySem.W.methodObj (.ref f) (.ref y))
    exact k a _ (.inl rfl) e
  | ext φ => obtain ⟨p, ⟨o, e⟩, st⟩ := x; exact ⟨st _ _ p fun o q => k _ _ (.inl rfl) q, ⟨o, k _ _ (.inl rfl) e⟩, st⟩
theorem HOk.lt (x : HOk P w H h) (e : H a = some o) : a < h.objs.size := (x a o e).lt
theorem HOk.fresh (x : HOk P w H h) (e : h.objs.size ≤ a) : H a = none := by
  cases q : H a with
  | none => rfl
  | some u => exact absurd (Nat.lt_of_lt_of_le (x.lt q) e) (Nat.lt_irrefl _)
theorem HOk.kept (x : HOk P w H h) (k : ∀ b u, h.get? b = some u → h'.get? b = some u) : HOk P w H h' := fun a o e =>
  (x a o e).stay (fun b u _ q => k b u q) (fun _ q => q) fun _ _ q => q
theorem HOk.laid (x : HOk P w H h) (k : ∀ b u, h.get? b = some u → h'.get? b = some u) (hp : h.objs.size ≤ a) (new : ObjOk P w (upd H a o) h' a o) : HOk P w (upd H a o) h' := fun b u e => by
  have hn := x.fresh hp
  by_cases hb : b = a
  · subst hb; rw [upd_same] at e; cases e; exact new
  · rw [upd_ne hb] at e
    exact (x b u e).stay (fun c v _ q => k c v q) (fun c q => by rw [upd_ne (ne_of_none q hn)]; exact q) fun c xs q => by rw [upd_ne (ne_of_none q hn)]; exact q
end
def Rd (H : Hp) (a : Addr) (u : HO) : Prop := H a = some u ∨ ∃ o, H a = some (.frz o u)
theorem Rd.ok {P : Program} {w : World} {H : Hp} {h : Heap} {a : Addr} {u : HO} (r : Rd H a u) (x : HOk P w H h) : ObjOk P w H h a u := by
  rcases r with r | ⟨o, r⟩
  · exact x a u r
  · obtain ⟨_, q⟩ := x a _ r
    exact q
def Mut : Option HO → Prop
  | some (.lst _) => True
  | some (.dK _) => True
  | some (.dT _) => True
  | some (.set _ _) => True
  | some (.ins _ _ _) => True
  | some (.ext _) => True
  | _ => False
section
variable {P : Program} {w : World} {H : Hp} {h h' : Heap} {x e : Addr} {o' : HO}
theorem HOk.write (ok : HOk P w H h) (mu : Mut (H x)) (he : e = x ∨ H e = some (.own x)) (k : ∀ b u, b ≠ e → h.get? b = some u → h'.get? b = some u) (heo : ∃ u, h'.get? e = some u)
    (new : ObjOk P w (upd H x o') h' x o') : HOk P w (upd H x o') h' := fun b u q => by
  have nown : ∀ c y, H c = some (.own y) → c ≠ x := fun c y r z => by subst z; rw [r] at mu; exact mu
  have ntup : ∀ c xs, H c = some (.tup xs) → c ≠ x := fun c xs r z => by subst z; rw [r] at mu; exact mu
  by_cases hb : b = x
  · subst hb; rw [upd_same] at q; cases q; exact new
  · rw [upd_ne hb] at q
    by_cases hbe : b = e
    · have q' : H b = some (.own x) := by
        rcases he with z | z
        · exact absurd (hbe.trans z) hb
        · rw [hbe]; exact z
      rw [q] at q'; cases q'
      obtain ⟨v, hv⟩ := heo
      exact ⟨v, by rw [hbe]; exact hv⟩
    · refine (ok b u q).stay (fun c v hc r => k c v ?_ r) (fun c r => by rw [upd_ne (nown c b r)]; exact r) fun c xs r => by rw [upd_ne (ntup c xs r)]; exact r
      rcases hc with rfl | hc
      · exact hbe
      · rintro rfl
        rcases he with z | z
        · exact nown c b hc z
        · rw [hc] at z; cases z; exact hb rfl
end
structure Un (fs ex : List Addr) (H H' : Hp) (h h' : Heap) : Prop where
  keep : ∀ b o, h.get? b = some o → H b = none → b ∉ fs → b ∉ ex → h'.get? b = some o
  slot : ∀ b o, h.get? b = some o → H b = none → b ∈ fs → b ∉ ex → ∃ sl, h'.get? b = some { o with slots := sl }
  free : ∀ b o, h.get? b = some o → H b = none → b ∉ ex → H' b = none
  there : ∀ b o, h.get? b = some o → b ∉ ex → ∃ o', h'.get? b = some o'
  tups : ∀ b xs, H b = some (.tup xs) → H' b = some (.tup xs)
  frzs : ∀ b o u, H b = some (.frz o u) → H' b = some (.frz o u)
  tbls : ∀ b ps, H b = some (.tbl ps) → ∃ more, H' b = some (.tbl (ps ++ more))
section
variable {fs fs' ex ex' : List Addr} {H H1 H2 : Hp} {h h1 h2 h' : Heap} {a x e : Addr} {o : HO}
theorem Un.any (u : Un fs ex H H1 h h1) {b : Addr} {ob : Obj} (q : h.get? b = some ob) (n : H b = none) (hx : b ∉ ex) : ∃ sl, h1.get? b = some { ob with slots := sl } := by
  by_cases hb : b ∈ fs
  · exact u.slot b ob q n hb hx
  · exact ⟨ob.slots, u.keep b ob q n hb hx⟩
theorem Un.kept (k : ∀ b u, h.get? b = some u → h'.get? b = some u) : Un fs ex H H h h' :=
  ⟨fun b ob q _ _ _ => k b ob q, fun b ob q _ _ _ => ⟨ob.slots, k b ob q⟩, fun _ _ _ n _ => n, fun b ob q _ => ⟨ob, k b ob q⟩, fun _ _ q => q, fun _ _ _ q => q, fun _ ps q => ⟨#[], by rw [q]; simp⟩⟩
theorem Un.refl : Un fs ex H H h h := Un.kept fun _ _ q => q
theorem Un.laid (k : ∀ b u, h.get? b = some u → h'.get? b = some u) (hp : h.objs.size ≤ a) (hn : H a = none) : Un fs ex H (upd H a o) h h' where
  keep := fun b u q _ _ _ => k b u q
  slot := fun b u q _ _ _ => ⟨u.slots, k b u q⟩
  free := fun b u q n _ => by rw [upd_ne (Nat.ne_of_lt (Nat.lt_of_lt_of_le (Heap.lt_size q) hp))]; exact n
  there := fun b u q _ => ⟨u, k b u q⟩
  tups := fun b xs q => by rw [upd_ne (ne_of_none q hn)]; exact q
  frzs := fun b u xs q => by rw [upd_ne (ne_of_none q hn)]; exact q
  tbls := fun b ps q => ⟨#[], by rw [upd_ne (ne_of_none q hn), q]; simp⟩
theorem Un.write (mu : Mut (H x)) (he : e = x ∨ H e = some (.own x)) (k : ∀ b u, b ≠ e → h.get? b = some u → h'.get? b = some u) (heo : ∃ u, h'.get? e = some u) : Un fs ex H (upd H x o) h h' := by
  have hx : ∀ b, H b = none → b ≠ x := fun b n z => by subst z; rw [n] at mu; exact mu
  have hb : ∀ b, H b = none → b ≠ e := fun b n z => by
    subst z
    rcases he with r | r
    · exact hx b n r
    · rw [n] at r; cases r
  have hm : ∀ b u, H b = some u → ¬ Mut (some u) → b ≠ x := fun b u q nm z => by subst z; rw [q] at mu; exact nm mu
  refine ⟨fun b u q n _ _ => k b u (hb b n) q, fun b u q n _ _ => ⟨u.slots, k b u (hb b n) q⟩, fun b u q n _ => by rw [upd_ne (hx b n)]; exact n, fun b u q _ => ?_,
    fun b xs q => by rw [upd_ne (hm b _ q fun z => z)]; exact q, fun b u xs q => by rw [upd_ne (hm b _ q fun z => z)]; exact q, fun b ps q => ⟨#[], by rw [upd_ne (hm b _ q fun z => z), q]; simp⟩⟩
  by_cases hbe : b = e
  · subst hbe; exact heo
  · exact ⟨u, k b u hbe q⟩
end
def trk (h : Heap) (H : Hp) : List Addr := (List.range h.objs.size).filter fun a => (H a).isSome
def hidT (h : Heap) (H : Hp) : Heap := PySem.W.hideAll h (trk h H)
theorem hidT_size (h : Heap) (H : Hp) : (hidT h H).objs.size = h.objs.size := PySem.W.hideAll_size _ _
theorem hidT_get {h : Heap} {H : Hp} {b : Addr} {o : Obj} (e : h.get? b = some o) (n : H b = none) : (hidT h H).get? b = some o :=
  PySem.W.hideAll_get _ e fun hm => by
    have q : (H b).isSome = true := (List.mem_filter.mp hm).2
    rw [n] at q; simp at q
theorem of_hidT {h : Heap} {H : Hp} {b : Addr} {o : Obj} (e : (hidT h H).get? b = some o) : h.get? b = some o ∧ H b = none := by
  have e' : h.get? b = some o := PySem.W.of_hideAll (trk h H) e
  refine ⟨e', ?_⟩
  cases q : H b with
  | none => rfl
  | some x =>
    have hm : b ∈ trk h H := List.mem_filter.mpr ⟨List.mem_range.mpr (Heap.lt_size e'), by simp [q]⟩
    have z : (hidT h H).get? b = none := PySem.W.hideAll_none (trk h H) hm
    rw [z] at e; cases e
end L2
namespace L2
open PySem PySem.Spec PyProof.Rows
structure Mod (K : PySem.W.Frag) (mg : Str → Option Value) (base : Heap) : Prop where
  kin : K.In base
  glob : base.Ns mainGlobals mg
  blt : ∃ mb, base.Ns builtinsNs mb ∧ ∀ x : Str, x ≠ "__name__" → mb x = bootBuiltins x
  nolimit : base.NoLimit
structure Cx where
  prog : Program
  w : World
  K : PySem.W.Frag
  mg : Str → Option Value
  base : Heap
  A : Around
  N : List Str
  s₀ : Shared
  H₀ : Hp
  env : Env
  outer : List Env
  stack : List Env
  ex : List Addr
  fn : Str → Bool
  calm : Bool
  pn : List (Addr × Obj)
  xe : Value → Shared → Prop
def frs (l : List Env) : List Addr := l.filterMap (·.frame)
abbrev Cx.fs (X : Cx) : List Addr := frs X.outer
def Vis (sc : Scope) (x : Str) : Prop := sc.names.lookup x = some .local ∨ sc.names.lookup x = some .cell ∨ sc.names.lookup x = some .free
def Loc (sc : Scope) (x : Str) : Prop := sc.names.lookup x = some .local ∨ sc.names.lookup x = some .cell
def Look (env : Env) (h : Heap) (m : Str → Option Value) (x : Str) (u : Value) : Prop :=
  (env.kindOf x = some .local ∧ m x = some u) ∨ ((env.kindOf x = some .cell ∨ env.kindOf x = some .free) ∧ ∃ c, env.cells.lookup x = some c ∧ h.IsCell c (some u))
structure Cx.Ok (X : Cx) : Prop where
  mod : Mod X.K X.mg X.base
  kind : X.env.scope.kind = .function
  glob : X.env.globals = mainGlobals
  blt : X.env.builtins = builtinsNs
  above : X.s₀.heap.objs.size ≤ X.env.locals
  inj : ∀ x y c, X.env.cells.lookup x = some c → X.env.cells.lookup y = some c → x = y
  has : ∀ x, (X.env.kindOf x = some .cell ∨ X.env.kindOf x = some .free) → ∃ c, X.env.cells.lookup x = some c
  cab : ∀ x c, X.fn x = true → X.env.cells.lookup x = some c → X.s₀.heap.objs.size ≤ c
  hd : X.calm = true → X.A.handled = none
  frames : X.A.frames = some X.stack
  stk : X.stack = X.outer ∨ (X.stack = X.env :: X.outer ∧ X.env.frame = some X.env.locals)
  exf : ∀ b ∈ X.ex, b ≠ X.env.locals ∧ ∀ x c, X.env.cells.lookup x = some c → c ≠ b
  bs : ∀ b o, X.base.get? b = some o → X.s₀.heap.get? b = some o ∧ X.H₀ b = none
  bsz : X.base.objs.size ≤ X.s₀.heap.objs.size
  noex : ∀ b o, X.base.get? b = some o → b ∉ X.ex
  exfs : ∀ b ∈ X.ex, b ∉ X.fs
  funs : X.s₀.heap.FunFrames X.base X.outer
  frf : ∀ b ∈ X.fs, X.H₀ b = none
structure Inv (X : Cx) (pins : List (Addr × Obj)) (σ : List (Option V)) (H : Hp) (s : Shared) : Prop where
  ok : X.Ok
  os : s.os = X.s₀.os
  bare : AllBare s.gens
  base : Un X.fs X.ex X.H₀ H X.s₀.heap s.heap
  loc : ∃ m, s.heap.Ns X.env.locals m ∧ ∀ (i : Nat) (x : Str) (v : V), X.N[i]? = some x → σ[i]? = some (some v) → Vis X.env.scope x → ∃ u, RelV v u ∧ Look X.env s.heap m x u
  cell : ∀ x c, X.env.cells.lookup x = some c → ∃ v, s.heap.IsCell c v
  free : H X.env.locals = none
  freeC : ∀ x c, X.env.cells.lookup x = some c → H c = none
  pin : ∀ p ∈ X.pn ++ pins, s.heap.get? p.1 = some p.2 ∧ H p.1 = none ∧ p.1 ≠ X.env.locals ∧ p.1 ∉ X.fs ∧ ∀ v, p.2.data ≠ .cell v
  hok : HOk X.prog X.w H s.heap
  len : σ.length = X.N.length
section
variable {X : Cx} {pins : List (Addr × Obj)} {σ : List (Option V)} {H H' : Hp} {s : Shared} {h' : Heap}
theorem Cx.Ok.nofr (ok : X.Ok) {b : Addr} {o : Obj} (e : X.base.get? b = some o) : b ∉ X.fs := fun hb => by
  have := (ok.funs.mem hb).1
  rw [e] at this; cases this
theorem Inv.bs (I : Inv X pins σ H s) : ∀ b o, X.base.get? b = some o → s.heap.get? b = some o ∧ H b = none := fun b o e =>
  ⟨I.base.keep b o (I.ok.bs b o e).1 (I.ok.bs b o e).2 (I.ok.nofr e) (I.ok.noex b o e), I.base.free b o (I.ok.bs b o e).1 (I.ok.bs b o e).2 (I.ok.noex b o e)⟩
theorem Inv.bk (I : Inv X pins σ H s) : ∀ b o, X.base.get? b = some o → s.heap.get? b = some o := fun b o e => (I.bs b o e).1
theorem Inv.mod (I : Inv X pins σ H s) : Mod X.K X.mg X.base := I.ok.mod
theorem Inv.kIn (I : Inv X pins σ H s) : X.K.In s.heap := I.ok.mod.kin.keeps I.bk
theorem Inv.lt (I : Inv X pins σ H s) : X.env.locals < s.heap.objs.size := let ⟨_, hn, _⟩ := I.loc; hn.lt
theorem Inv.sz (I : Inv X pins σ H s) : X.s₀.heap.objs.size ≤ s.heap.objs.size := Nat.le_trans I.ok.above (Nat.le_of_lt I.lt)
theorem Inv.nofs (I : Inv X pins σ H s) {a : Addr} (h : s.heap.objs.size ≤ a) : a ∉ X.fs := fun hb => by
  obtain ⟨_, o, ho, _⟩ := I.ok.funs.mem hb
  exact absurd (Nat.lt_of_lt_of_le (Heap.lt_size ho) (Nat.le_trans I.sz h)) (Nat.lt_irrefl _)
theorem Inv.cne (I : Inv X pins σ H s) : ∀ x c, X.env.cells.lookup x = some c → c ≠ X.env.locals := fun x c e z => by
  obtain ⟨v, o, ho, hd⟩ := I.cell x c e
  obtain ⟨m, ⟨o', es, ep, ho', hd', _⟩, _⟩ := I.loc
  rw [z, ho'] at ho; cases ho; rw [hd'] at hd; cases hd
theorem Inv.funs (I : Inv X pins σ H s) : s.heap.FunFrames X.base X.outer := by
  have all : ∀ (l : List Env), (∀ b ∈ frs l, b ∈ X.fs) → X.s₀.heap.FunFrames X.base l → s.heap.FunFrames X.base l := by
    intro l
    induction l with
    | nil => intro _ _; trivial
    | cons env r ih =>
      intro hs hl
      obtain ⟨hk, ⟨L, o, hf, hn, ho, hd⟩, hr⟩ := hl
      have hL : L ∈ X.fs := hs L (by unfold frs; rw [List.filterMap_cons, hf]; exact List.mem_cons_self)
      obtain ⟨sl, e⟩ := I.base.slot L o ho (I.ok.frf L hL) hL fun z => I.ok.exfs L z hL
      exact ⟨hk, ⟨L, _, hf, hn, e, hd⟩, ih (fun b hb => hs b (by unfold frs; rw [List.filterMap_cons, hf]; exact List.mem_cons_of_mem _ hb)) hr⟩
  exact all X.outer (fun _ hb => hb) I.ok.funs
theorem Inv.stack (I : Inv X pins σ H s) : s.heap.FunFrames X.base X.stack := by
  rcases I.ok.stk with e | ⟨e, hf⟩
  · rw [e]; exact I.funs
  · rw [e]
    obtain ⟨m, hn, _⟩ := I.loc
    refine .cons (by rw [I.ok.kind]; decide) hf hn ?_ I.funs
    exact Heap.get?_none_of_le (Nat.le_trans I.ok.bsz I.ok.above)
theorem Inv.stkSub (I : Inv X pins σ H s) : ∀ b ∈ frs X.stack, b ∈ X.env.locals :: X.fs := fun b hb => by
  rcases I.ok.stk with e | ⟨e, hf⟩
  · rw [e] at hb; exact List.mem_cons_of_mem _ hb
  · rw [e] at hb
    unfold frs at hb
    rw [List.filterMap_cons, hf] at hb
    exact hb
theorem Inv.stkFree (I : Inv X pins σ H s) : ∀ b ∈ frs X.stack, H b = none := fun b hb => by
  rcases List.mem_cons.mp (I.stkSub b hb) with e | hb
  · rw [e]; exact I.free
  · obtain ⟨_, o, ho, _⟩ := I.ok.funs.mem hb
    exact I.base.free b o ho (I.ok.frf b hb) fun z => I.ok.exfs b z hb
theorem Inv.step {g' : Array GenState} {t' : Nat} {d' : Drawn} {ch : List Addr} (I : Inv X pins σ H s)
    (hch : ∀ b ∈ ch, (b ∈ X.ex ∨ X.s₀.heap.objs.size ≤ b) ∧ b ≠ X.env.locals ∧ (∀ x c, X.env.cells.lookup x = some c → c ≠ b) ∧ ∀ p ∈ X.pn ++ pins, p.1 ≠ b)
    (keep : ∀ b o, b ≠ X.env.locals → b ∉ X.fs → b ∉ ch → s.heap.get? b = some o → H b = none → h'.get? b = some o)
    (slot : ∀ b o, b ≠ X.env.locals → b ∈ X.fs → b ∉ ch → s.heap.get? b = some o → H b = none → ∃ sl, h'.get? b = some { o with slots := sl }) (free : ∀ b o, b ∉ ch → s.heap.get? b = some o → H b = none → H' b = none)
    (there : ∀ b o, b ∉ ch → s.heap.get? b = some o → ∃ o', h'.get? b = some o')
    (tups : ∀ b xs, H b = some (.tup xs) → H' b = some (.tup xs)) (frzs : ∀ b o u, H b = some (.frz o u) → H' b = some (.frz o u)) (tbls : ∀ b ps, H b = some (.tbl ps) → ∃ more, H' b = some (.tbl (ps ++ more)))
    (ns : ∀ m, s.heap.Ns X.env.locals m → h'.Ns X.env.locals m) (hok : HOk X.prog X.w H' h') (hg : AllBare g') :
    Inv X pins σ H' { s with heap := h', gens := g', drawn := d', toks := t' } := by
  have neL : ∀ b o, X.s₀.heap.get? b = some o → b ≠ X.env.locals := fun b o e => Nat.ne_of_lt (Nat.lt_of_lt_of_le (Heap.lt_size e) I.ok.above)
  have neC : ∀ b o, X.s₀.heap.get? b = some o → b ∉ X.ex → b ∉ ch := fun b o e hx hb => by
    rcases (hch b hb).1 with z | z
    · exact hx z
    · exact absurd (Nat.lt_of_lt_of_le (Heap.lt_size e) z) (Nat.lt_irrefl _)
  have cellK : ∀ x c, X.env.cells.lookup x = some c → ∀ v, s.heap.IsCell c v → h'.IsCell c v := fun x c e v ⟨o, ho, hd⟩ => by
    have nch : c ∉ ch := fun z => (hch c z).2.2.1 x c e rfl
    by_cases hc : c ∈ X.fs
    · obtain ⟨sl, q⟩ := slot c o (I.cne x c e) hc nch ho (I.freeC x c e)
      exact ⟨_, q, hd⟩
    · exact ⟨o, keep c o (I.cne x c e) hc nch ho (I.freeC x c e), hd⟩
  refine ⟨I.ok, I.os, hg, ⟨fun b o e n hb hx => ?_, fun b o e n hb hx => ?_, fun b o e n hx => ?_, fun b o e hx => ?_, fun b xs e => tups b xs (I.base.tups b xs e), fun b o xs e => frzs b o xs (I.base.frzs b o xs e), fun b ps e => ?_⟩, ?_, fun x c e => ?_, ?_, fun x c e => ?_, fun p hp => ?_, hok, I.len⟩
  · exact keep b o (neL b o e) hb (neC b o e hx) (I.base.keep b o e n hb hx) (I.base.free b o e n hx)
  · obtain ⟨sl, e1⟩ := I.base.slot b o e n hb hx
    obtain ⟨sl', e2⟩ := slot b _ (neL b o e) hb (neC b o e hx) e1 (I.base.free b o e n hx)
    exact ⟨sl', e2⟩
  · obtain ⟨o', e1⟩ := I.base.there b o e hx
    exact free b o' (neC b o e hx) e1 (I.base.free b o e n hx)
  · obtain ⟨o', e1⟩ := I.base.there b o e hx
    exact there b o' (neC b o e hx) e1
  · obtain ⟨m1, e1⟩ := I.base.tbls b ps e
    obtain ⟨m2, e2⟩ := tbls b _ e1
    exact ⟨m1 ++ m2, by rw [e2, Array.append_assoc]⟩
  · obtain ⟨m, hn, hl⟩ := I.loc
    refine ⟨m, ns m hn, fun i x v e1 e2 e3 => ?_⟩
    obtain ⟨u, r, l⟩ := hl i x v e1 e2 e3
    refine ⟨u, r, ?_⟩
    rcases l with l | ⟨k, c, e, z⟩
    · exact .inl l
    · exact .inr ⟨k, c, e, cellK x c e _ z⟩
  · obtain ⟨v, z⟩ := I.cell x c e
    exact ⟨v, cellK x c e v z⟩
  · obtain ⟨m, ⟨o, _, _, ho, _⟩, _⟩ := I.loc
    exact free _ o (fun z => (hch _ z).2.1 rfl) ho I.free
  · obtain ⟨v, o, ho, hd⟩ := I.cell x c e
    exact free c o (fun z => (hch c z).2.2.1 x c e rfl) ho (I.freeC x c e)
  · obtain ⟨e, n, ne, nf, d⟩ := I.pin p hp
    have nch : p.1 ∉ ch := fun z => (hch p.1 z).2.2.2 p hp rfl
    exact ⟨keep p.1 p.2 ne nf nch e n, free p.1 p.2 nch e n, ne, nf, d⟩
theorem Inv.un {t' : Nat} (I : Inv X pins σ H s) (u : Un X.fs [] H H' s.heap h') (hok : HOk X.prog X.w H' h') : Inv X pins σ H' { s with heap := h', toks := t' } := by
  obtain ⟨m, ⟨o, es, ep, ho, r⟩, _⟩ := id I.loc
  obtain ⟨sl, hL⟩ := u.any ho I.free (by simp)
  exact I.step (g' := s.gens) (d' := s.drawn) (ch := []) (fun _ z => nomatch z) (fun b o _ hb _ e n => u.keep b o e n hb (by simp)) (fun b o _ hb _ e n => u.slot b o e n hb (by simp)) (fun b o _ e n => u.free b o e n (by simp)) (fun b o _ e => u.there b o e (by simp)) u.tups u.frzs u.tbls (fun m' hm => by
    obtain ⟨o', es', ep', ho', r'⟩ := hm
    rw [ho] at ho'; cases ho'
    exact ⟨_, es', ep', hL, r'⟩) hok I.bare
theorem Inv.call {g' : Array GenState} {t' : Nat} {d' : Drawn} {ch : List Addr} (I : Inv X pins σ H s) (u : Un (frs X.stack) ch H H' s.heap h') (hok : HOk X.prog X.w H' h') (hg : AllBare g')
    (hch : ∀ b ∈ ch, (b ∈ X.ex ∨ X.s₀.heap.objs.size ≤ b) ∧ b ≠ X.env.locals ∧ (∀ x c, X.env.cells.lookup x = some c → c ≠ b) ∧ ∀ p ∈ X.pn ++ pins, p.1 ≠ b) :
    Inv X pins σ H' { s with heap := h', gens := g', drawn := d', toks := t' } := by
  obtain ⟨m, ⟨o, es, ep, ho, r⟩, _⟩ := id I.loc
  obtain ⟨sl, hL⟩ := u.any ho I.free fun z => (hch _ z).2.1 rfl
  exact I.step (ch := ch) hch (fun b o hL hb hc e n => u.keep b o e n (fun z => (List.mem_cons.mp (I.stkSub b z)).elim hL hb) hc) (fun b o _ _ hc e n => u.any e n hc) (fun b o hc e n => u.free b o e n hc) (fun b o hc e => u.there b o e hc) u.tups u.frzs u.tbls (fun m' hm => by
    obtain ⟨o', es', ep', ho', r'⟩ := hm
    rw [ho] at ho'; cases ho'
    exact ⟨_, es', ep', hL, r'⟩) hok hg
theorem Inv.turned {t' : Nat} {it : Addr} (I : Inv X pins σ H s) (k : ∀ b o, b ≠ it → s.heap.get? b = some o → h'.get? b = some o) (hn : H it = none) (hL : it ≠ X.env.locals)
    (h1 : it ∈ X.ex ∨ X.s₀.heap.objs.size ≤ it) (h2 : ∀ x c, X.env.cells.lookup x = some c → c ≠ it) (h3 : ∀ p ∈ X.pn ++ pins, p.1 ≠ it) : Inv X pins σ H { s with heap := h', toks := t' } := by
  have nit : ∀ b u, H b = some u → b ≠ it := fun b u e z => by rw [z, hn] at e; cases e
  refine I.step (g' := s.gens) (d' := s.drawn) (ch := [it]) (fun b hb => ?_) (fun b o _ _ hc e _ => k b o (fun z => hc (by simp [z])) e) (fun b o _ _ hc e _ => ⟨o.slots, k b o (fun z => hc (by simp [z])) e⟩) (fun _ _ _ _ n => n)
    (fun b o hc e => ⟨o, k b o (fun z => hc (by simp [z])) e⟩) (fun _ _ e => e) (fun _ _ _ e => e) (fun b ps e => ⟨#[], by rw [e]; simp⟩) (fun m hm => ?_) (fun b u e => ?_) I.bare
  · have e : b = it := by simpa using hb
    subst e
    exact ⟨h1, hL, h2, h3⟩
  · obtain ⟨o, es, ep, ho, r⟩ := hm
    exact ⟨o, es, ep, k _ o (Ne.symm hL) ho, r⟩
  · refine (I.hok b u e).stay (fun c v hc q => k c v ?_ q) (fun _ q => q) fun _ _ q => q
    rcases hc with z | z
    · rw [z]; exact nit b u e
    · exact nit c _ z
theorem Inv.tok (I : Inv X pins σ H s) (t : Nat) : Inv X pins σ H { s with toks := t } := I.un (h' := s.heap) (t' := t) Un.refl I.hok
theorem Inv.kept {t' : Nat} (I : Inv X pins σ H s) (k : ∀ b u, s.heap.get? b = some u → h'.get? b = some u) : Inv X pins σ H { s with heap := h', toks := t' } := I.un (Un.kept k) (I.hok.kept k)
theorem Inv.laid {a : Addr} {o : HO} {t' : Nat} (I : Inv X pins σ H s) (k : ∀ b u, s.heap.get? b = some u → h'.get? b = some u) (hp : s.heap.objs.size ≤ a) (new : ObjOk X.prog X.w (upd H a o) h' a o) :
    Inv X pins σ (upd H a o) { s with heap := h', toks := t' } := I.un (Un.laid k hp (I.hok.fresh hp)) (I.hok.laid k hp new)
theorem Inv.write {x e : Addr} {o : HO} {t' : Nat} (I : Inv X pins σ H s) (mu : Mut (H x)) (he : e = x ∨ H e = some (.own x)) (k : ∀ b u, b ≠ e → s.heap.get? b = some u → h'.get? b = some u) (heo : ∃ u, h'.get? e = some u)
    (new : ObjOk X.prog X.w (upd H x o) h' x o) : Inv X pins σ (upd H x o) { s with heap := h', toks := t' } := I.un (Un.write mu he k heo) (I.hok.write mu he k heo new)
theorem Inv.pins_of {pins' : List (Addr × Obj)} (I : Inv X pins σ H s) (h : ∀ p ∈ pins', s.heap.get? p.1 = some p.2 ∧ H p.1 = none ∧ p.1 ≠ X.env.locals ∧ p.1 ∉ X.fs ∧ ∀ v, p.2.data ≠ .cell v) : Inv X pins' σ H s :=
  ⟨I.ok, I.os, I.bare, I.base, I.loc, I.cell, I.free, I.freeC, fun p hp => (List.mem_append.mp hp).elim (fun z => I.pin p (List.mem_append_left _ z)) (h p), I.hok, I.len⟩
theorem nodup_ix {N : List Str} (hN : N.Nodup) {i j : Nat} {x : Str} (a : N[i]? = some x) (b : N[j]? = some x) : i = j := by
  obtain ⟨h1, e1⟩ := List.getElem?_eq_some_iff.mp a
  obtain ⟨h2, e2⟩ := List.getElem?_eq_some_iff.mp b
  exact (List.getElem_inj hN).mp (e1.trans e2.symm)
theorem store_ok2 {M : Model} {A : Around} {E : Value → Shared → Prop} {i : Nat} {x : Str} {v : V} {u : Value} {Q : Unit → Shared → Prop} (I : Inv X pins σ H s) (hN : X.N.Nodup) (hi : X.N[i]? = some x) (hx : Loc X.env.scope x) (r : RelV v u)
    (h : ∀ s', Inv X pins (σ.set i (some v)) H s' → (∃ a, Heap.SameBut a s.heap s'.heap ∧ (a = X.env.locals ∨ X.env.cells.lookup x = some a)) → Q () s') (hf : X.fn x = true ∨ X.env.scope.names.lookup x = some .local := by first | exact .inl rfl | exact .inr rfl | assumption) : wpAny M A (storeName X.env x u) Q E s := by
  obtain ⟨m, hn, hl⟩ := id I.loc
  have hcls : (X.env.scope.kind == .class || (X.env.scope.kind == .module && X.env.locals != X.env.globals)) = false := by rw [I.ok.kind]; rfl
  have hiσ : i < σ.length := by rw [I.len]; exact (List.getElem?_eq_some_iff.mp hi).1
  have cne := I.cne
  have tracked : ∀ {a : Addr} {h' : Heap}, (∃ o, s.heap.get? a = some o ∧ H a = none) → Heap.SameBut a s.heap h' → HOk X.prog X.w H h' := fun {a h'} ha hs b ob e => by
    obtain ⟨_, _, hfree⟩ := ha
    refine (I.hok b ob e).stay (fun c w' hc q => (hs.2 c ?_).trans q) (fun _ q => q) fun _ _ q => q
    rintro rfl
    rcases hc with rfl | hc
    · rw [hfree] at e; cases e
    · rw [hfree] at hc; cases hc
  rcases hx with hk | hk
  · refine wpAny_storeName_local hk hn (fun h' hn' hs => ?_) hcls
    obtain ⟨oL, _, _, hoL, _⟩ := id hn
    refine h _ ⟨I.ok, I.os, I.bare, ⟨fun b o e n hb hx => ?_, fun b o e n hb hx => ?_, I.base.free, fun b o e hx => ?_, I.base.tups, I.base.frzs, I.base.tbls⟩, ⟨_, hn', fun j y v' e1 e2 e3 => ?_⟩, fun y c e => ?_, I.free, I.freeC, fun p hp => ?_, tracked ⟨oL, hoL, I.free⟩ hs, by simpa using I.len⟩ ⟨_, hs, .inl rfl⟩
    · exact (hs.2 b (Nat.ne_of_lt (Nat.lt_of_lt_of_le (Heap.lt_size e) I.ok.above))).trans (I.base.keep b o e n hb hx)
    · obtain ⟨sl, e1⟩ := I.base.slot b o e n hb hx
      exact ⟨sl, (hs.2 b (Nat.ne_of_lt (Nat.lt_of_lt_of_le (Heap.lt_size e) I.ok.above))).trans e1⟩
    · obtain ⟨o', e1⟩ := I.base.there b o e hx
      exact ⟨o', (hs.2 b (Nat.ne_of_lt (Nat.lt_of_lt_of_le (Heap.lt_size e) I.ok.above))).trans e1⟩
    · by_cases hj : j = i
      · subst hj
        rw [hi] at e1; cases e1
        rw [List.getElem?_set_self hiσ] at e2
        cases e2
        exact ⟨u, r, .inl ⟨hk, by simp⟩⟩
      · rw [List.getElem?_set_ne (Ne.symm hj)] at e2
        obtain ⟨u', r', q⟩ := hl j y v' e1 e2 e3
        refine ⟨u', r', ?_⟩
        rcases q with ⟨k, e⟩ | ⟨k, c, e, z⟩
        · refine .inl ⟨k, ?_⟩
          have : y ≠ x := fun e => hj (nodup_ix hN e1 (e ▸ hi))
          simp [this, e]
        · exact .inr ⟨k, c, e, z.sameBut hs (cne y c e)⟩
    · obtain ⟨w', z⟩ := I.cell y c e
      exact ⟨w', z.sameBut hs (cne y c e)⟩
    · obtain ⟨e, n, ne, nf, d⟩ := I.pin p hp
      exact ⟨(hs.2 p.1 ne).trans e, n, ne, nf, d⟩
  · have hfn : X.fn x = true := by
      rcases hf with z | z
      · exact z
      · rw [z] at hk; cases hk
    obtain ⟨c, hc⟩ := I.ok.has x (.inl hk)
    obtain ⟨w', z⟩ := I.cell x c hc
    refine wpAny_storeName_cell I.ok.kind hk hc z (fun h' hc' hs => ?_)
    obtain ⟨oc, hoc, hocd⟩ := id z
    refine h { s with heap := h' } ⟨I.ok, I.os, I.bare, ⟨fun b o e n hb hx => ?_, fun b o e n hb hx => ?_, I.base.free, fun b o e hx => ?_, I.base.tups, I.base.frzs, I.base.tbls⟩, ⟨m, hn.sameBut hs (Ne.symm (cne x c hc)), fun j y v' e1 e2 e3 => ?_⟩, fun y c' e => ?_, I.free, I.freeC, fun p hp => ?_, tracked ⟨oc, hoc, I.freeC x c hc⟩ hs, by simpa using I.len⟩ ⟨c, hs, .inr hc⟩
    · exact (hs.2 b (Nat.ne_of_lt (Nat.lt_of_lt_of_le (Heap.lt_size e) (I.ok.cab x c hfn hc)))).trans (I.base.keep b o e n hb hx)
    · obtain ⟨sl, e1⟩ := I.base.slot b o e n hb hx
      exact ⟨sl, (hs.2 b (Nat.ne_of_lt (Nat.lt_of_lt_of_le (Heap.lt_size e) (I.ok.cab x c hfn hc)))).trans e1⟩
    · obtain ⟨o', e1⟩ := I.base.there b o e hx
      exact ⟨o', (hs.2 b (Nat.ne_of_lt (Nat.lt_of_lt_of_le (Heap.lt_size e) (I.ok.cab x c hfn hc)))).trans e1⟩
    · by_cases hj : j = i
      · subst hj
        rw [hi] at e1; cases e1
        rw [List.getElem?_set_self hiσ] at e2
        cases e2
        exact ⟨u, r, .inr ⟨.inl hk, c, hc, hc'⟩⟩
      · rw [List.getElem?_set_ne (Ne.symm hj)] at e2
        obtain ⟨u', r', q⟩ := hl j y v' e1 e2 e3
        refine ⟨u', r', ?_⟩
        rcases q with q | ⟨k, c', e, z'⟩
        · exact .inl q
        · refine .inr ⟨k, c', e, z'.sameBut hs ?_⟩
          rintro rfl
          exact hj (nodup_ix hN e1 (I.ok.inj _ _ _ e hc ▸ hi))
    · by_cases hcc : c' = c
      · subst hcc; exact ⟨_, hc'⟩
      · obtain ⟨w2, z2⟩ := I.cell y c' e
        exact ⟨w2, z2.sameBut hs hcc⟩
    · obtain ⟨e, n, ne, nf, d⟩ := I.pin p hp
      refine ⟨(hs.2 p.1 ?_).trans e, n, ne, nf, d⟩
      intro q
      rw [q, hoc] at e
      have q' : oc = p.2 := Option.some.inj e
      exact d w' (by rw [← q']; exact hocd)
theorem store_ok {M : Model} {A : Around} {E : Value → Shared → Prop} {i : Nat} {x : Str} {v : V} {u : Value} {Q : Unit → Shared → Prop} (I : Inv X pins σ H s) (hN : X.N.Nodup) (hi : X.N[i]? = some x) (hx : Loc X.env.scope x) (r : RelV v u)
    (h : ∀ s', Inv X pins (σ.set i (some v)) H s' → Q () s') (hf : X.fn x = true ∨ X.env.scope.names.lookup x = some .local := by first | exact .inl rfl | exact .inr rfl | assumption) : wpAny M A (storeName X.env x u) Q E s :=
  store_ok2 I hN hi hx r (fun s' I' _ => h s' I') hf
theorem Inv.call' {s' : Shared} {ch : List Addr} (I : Inv X pins σ H s) (ho : s'.os = s.os) (u : Un (frs X.stack) ch H H' s.heap s'.heap) (hok : HOk X.prog X.w H' s'.heap) (hg : AllBare s'.gens)
    (hch : ∀ b ∈ ch, (b ∈ X.ex ∨ X.s₀.heap.objs.size ≤ b) ∧ b ≠ X.env.locals ∧ (∀ x c, X.env.cells.lookup x = some c → c ≠ b) ∧ ∀ p ∈ X.pn ++ pins, p.1 ≠ b) : Inv X pins σ H' s' := by
  obtain ⟨h', g', d', t', o'⟩ := s'
  have e : o' = s.os := ho
  subst e
  exact I.call (g' := g') (t' := t') (d' := d') u hok hg hch
end
abbrev XK := Value → Option Addr → Hp → Prop
abbrev St := List (Option V)
abbrev VK := V → Hp → Prop
abbrev TE := St → Hp → VK → Prop
abbrev TT := St → Hp → (Bool → Hp → Prop) → Prop
abbrev TA := St → Hp → (List V → Hp → Prop) → Prop
structure Ends where
  nx : St → Hp → Prop
  rt : VK
  bk : St → Hp → Prop := fun _ _ => False
  ct : St → Hp → Prop := fun _ _ => False
abbrev TS := Ends → St → Hp → Prop
def EP (X : Cx) (pins : List (Addr × Obj)) (σ : St) (Q : VK) (u : Value) (s' : Shared) : Prop := ∃ v H', Inv X pins σ H' s' ∧ RelV v u ∧ Q v H'
def TP (X : Cx) (pins : List (Addr × Obj)) (σ : St) (Q : Bool → Hp → Prop) (b : Bool) (s' : Shared) : Prop := ∃ H', Inv X pins σ H' s' ∧ Q b H'
def AP (X : Cx) (pins : List (Addr × Obj)) (σ : St) (Q : List V → Hp → Prop) (us : List Value) (s' : Shared) : Prop := ∃ vs H', Inv X pins σ H' s' ∧ Vals vs us ∧ Q vs H'
def SP (X : Cx) (pins : List (Addr × Obj)) (D : Ends) (f : Flow) (s' : Shared) : Prop :=
  match f with
  | .next => ∃ σ' H', Inv X pins σ' H' s' ∧ D.nx σ' H'
  | .brk => ∃ σ' H', Inv X pins σ' H' s' ∧ D.bk σ' H'
  | .cont => ∃ σ' H', Inv X pins σ' H' s' ∧ D.ct σ' H'
  | .ret u => ∃ v σ' H', Inv X pins σ' H' s' ∧ RelV v u ∧ D.rt v H'
def PE (X : Cx) (e : Expr) (t : TE) : Prop :=
  ∀ (pins : List (Addr × Obj)) (s : Shared) (σ : St) (H : Hp) (Q : VK), Inv X pins σ H s → t σ H Q → wpAny (model X.prog X.w) X.A (eval e X.env) (EP X pins σ Q) X.xe s
def PT (X : Cx) (e : Expr) (t : TT) : Prop :=
  ∀ (pins : List (Addr × Obj)) (s : Shared) (σ : St) (H : Hp) (Q : Bool → Hp → Prop), Inv X pins σ H s → t σ H Q → wpAny (model X.prog X.w) X.A (isTrue e X.env (eval e X.env)) (TP X pins σ Q) X.xe s
def PW (X : Cx) (e : Expr) (t : TT) : Prop :=
  ∀ (whole : Sem Value) (pins : List (Addr × Obj)) (s : Shared) (σ : St) (H : Hp) (Q : Bool → Hp → Prop), Inv X pins σ H s → t σ H Q → wpAny (model X.prog X.w) X.A (isTrue e X.env whole) (TP X pins σ Q) X.xe s
theorem PW.pt {X : Cx} {e : Expr} {t : TT} (h : PW X e t) : PT X e t := h _
def PA (X : Cx) (es : List Expr) (t : TA) : Prop :=
  ∀ (pos : Pos) (pins : List (Addr × Obj)) (s : Shared) (σ : St) (H : Hp) (Q : List V → Hp → Prop), Inv X pins σ H s → t σ H Q → wpAny (model X.prog X.w) X.A (spliced (backTo pos (starEach es X.env))) (AP X pins σ Q) X.xe s
def PS (X : Cx) (st : Stmt) (t : TS) : Prop :=
  ∀ (pins : List (Addr × Obj)) (s : Shared) (σ : St) (H : Hp) (D : Ends), Inv X pins σ H s → t D σ H → wpAny (model X.prog X.w) X.A (exec st X.env) (SP X pins D) X.xe s
def PSs (X : Cx) (st : List Stmt) (t : TS) : Prop :=
  ∀ (pins : List (Addr × Obj)) (s : Shared) (σ : St) (H : Hp) (D : Ends), Inv X pins σ H s → t D σ H → wpAny (model X.prog X.w) X.A (execs st X.env) (SP X pins D) X.xe s
theorem thn {α : Type} {t : Sem α} {Q Q' : α → Shared → Prop} {M : Model} {A : Around} {E : Value → Shared → Prop} {s : Shared} (h : wpAny M A t Q E s) (hQ : ∀ a s, Q a s → Q' a s) : wpAny M A t Q' E s := wpAny_mono h hQ fun _ _ x => x
end L2
namespace L2
open PySem PySem.Spec PyProof.Rows
section
variable {X : Cx}
theorem bin {a b : Expr} {ta tb : TE} (ha : PE X a ta) (hb : PE X b tb) {pins : List (Addr × Obj)} {s : Shared} {σ : St} {H : Hp} {R : V → V → Hp → Prop} (I : Inv X pins σ H s) (h : ta σ H fun x H1 => tb σ H1 fun y H2 => R x y H2)
    {α : Type} {Q : α → Shared → Prop} {f : Value → Value → Sem α}
    (hf : ∀ v u s2 x y H2, Inv X pins σ H2 s2 → RelV x v → RelV y u → R x y H2 → wpAny (model X.prog X.w) X.A (f v u) Q X.xe s2) :
    wpAny (model X.prog X.w) X.A (eval a X.env) (fun v s₁ => wpAny (model X.prog X.w) X.A (eval b X.env) (fun u s₂ => wpAny (model X.prog X.w) X.A (f v u) Q X.xe s₂) X.xe s₁) X.xe s := by
  refine thn (ha pins s σ H _ I h) fun v s1 ⟨x, H1, I1, r1, q1⟩ => ?_
  refine thn (hb pins s1 σ H1 _ I1 q1) fun u s2 ⟨y, H2, I2, r2, q2⟩ => ?_
  exact hf v u s2 x y H2 I2 r1 r2 q2
def tVar (i : Nat) : TE := fun σ H Q => ∃ v, σ[i]? = some (some v) ∧ Q v H
def tC (v : V) : TE := fun _ H Q => Q v H
theorem pe_var {i : Nat} {x : Str} {pos : Pos} (hN : X.N[i]? = some x) (hv : Vis X.env.scope x) (hd : (x == ("__debug__" : Str)) = false := by decide) (hcd : (x == ("__classdict__" : Str)) = false := by decide) : PE X (.Name x pos) (tVar i) := by
  intro pins s σ H Q I h
  obtain ⟨v, e, h⟩ := h
  obtain ⟨m, hn, hl⟩ := I.loc
  obtain ⟨u, r, l⟩ := hl i x v hN e hv
  have fin : EP X pins σ Q u s := ⟨v, H, I, r, h⟩
  rcases l with ⟨hk, hm⟩ | ⟨hk, c, hc, hcell⟩
  · exact wpAny_Name (wpAny_loadName_local I.ok.kind hk hn hm fin) hd
  · rcases hk with hk | hk
    · exact wpAny_Name (wpAny_loadName_cell I.ok.kind hk hc hcell fin) hd
    · exact wpAny_Name (wpAny_loadName_free I.ok.kind hk hc hcell fin hcd) hd
theorem pe_int {i j pos} : PE X (.Constant (.int i) j pos) (tC (.int i)) := fun _ _ _ H _ I h => wpAny_Constant_int ⟨.int i, H, I.tok _, ⟨_, rfl⟩, h⟩
theorem pe_bl {b j pos} : PE X (.Constant (.bool b) j pos) (tC (.bl b)) := fun _ _ _ H _ I h => Constant_bool ⟨.bl b, H, I, rfl, h⟩
theorem pe_non {j pos} : PE X (.Constant .none j pos) (tC .non) := fun _ _ _ H _ I h => Constant_none ⟨.non, H, I, rfl, h⟩
theorem pe_str {x j pos} : PE X (.Constant (.str x) j pos) (tC (.str x)) := fun _ _ _ H _ I h => Calls.Constant_str ⟨.str x, H, I.tok _, ⟨_, rfl⟩, h⟩
def Gl (X : Cx) (x : Str) : Prop := X.env.kindOf x = some .globalImplicit
theorem ld_glob {E : Value → Shared → Prop} {pins : List (Addr × Obj)} {s : Shared} {σ : St} {H : Hp} {x : Str} {u : Value} {pos : Pos} {Q : Value → Shared → Prop} (I : Inv X pins σ H s) (hg : Gl X x) (hm : X.mg x = some u) (h : Q u s)
    (hd : (x == ("__debug__" : Str)) = false := by decide) : wpAny (model X.prog X.w) X.A (eval (.Name x pos) X.env) Q E s :=
  Calls.Name_function_global I.ok.kind hg (Calls.loadGlobal_global (by rw [I.ok.glob]; exact I.mod.glob.keeps I.bk) hm h) hd
theorem ld_blt {E : Value → Shared → Prop} {pins : List (Addr × Obj)} {s : Shared} {σ : St} {H : Hp} {x : Str} {u : Value} {pos : Pos} {Q : Value → Shared → Prop} (I : Inv X pins σ H s) (hg : Gl X x) (hm : X.mg x = none) (hv : bootBuiltins x = some u) (h : Q u s)
    (hn : x ≠ "__name__" := by decide) (hd : (x == ("__debug__" : Str)) = false := by decide) : wpAny (model X.prog X.w) X.A (eval (.Name x pos) X.env) Q E s := by
  obtain ⟨mb, h1, h2⟩ := I.mod.blt
  exact Calls.Name_function_global I.ok.kind hg (Calls.loadGlobal_builtin (by rw [I.ok.glob]; exact I.mod.glob.keeps I.bk) hm (by rw [I.ok.blt]; exact h1.keeps I.bk) ((h2 x hn).trans hv) h) hd
theorem pe_glob {x : Str} {v : V} {u : Value} {pos : Pos} (hg : Gl X x) (hm : X.mg x = some u) (r : RelV v u) (hd : (x == ("__debug__" : Str)) = false := by decide) : PE X (.Name x pos) (tC v) :=
  fun _ _ _ H _ I h => ld_glob I hg hm ⟨v, H, I, r, h⟩ hd
theorem pe_bltn {x : Str} {v : V} {u : Value} {pos : Pos} (hg : Gl X x) (hm : X.mg x = none) (hv : bootBuiltins x = some u) (r : RelV v u) (hn : x ≠ "__name__" := by decide) (hd : (x == ("__debug__" : Str)) = false := by decide) : PE X (.Name x pos) (tC v) :=
  fun _ _ _ H _ I h => ld_blt I hg hm hv ⟨v, H, I, r, h⟩ hn hd
variable {a b : Expr} {ta tb : TE} {pos : Pos}
def PC (X : Cx) (op : CmpOp) (a b : Expr) (t : TE) : Prop :=
  ∀ (pins : List (Addr × Obj)) (s : Shared) (σ : St) (H : Hp) (Q : VK), Inv X pins σ H s → t σ H Q →
    wpAny (model X.prog X.w) X.A (eval a X.env) (fun v s₁ => wpAny (model X.prog X.w) X.A (eval b X.env) (fun u s₂ => wpAny (model X.prog X.w) X.A (compareOp op v u) (EP X pins σ Q) X.xe s₂) X.xe s₁) X.xe s
def tB (t : TE) : TT := fun σ H Q => t σ H fun x H1 => ∃ c, x = .bl c ∧ Q c H1
theorem pt_cmp {op : CmpOp} {t : TE} (h : PC X op a b t) (h1 : behindInMarks op b = false := by first | exact nobehind _ (by decide) (by decide) | rfl) : PT X (.Compare a [op] [b] pos) (tB t) := by
  intro pins s σ H Q I hw
  refine wpAny_isTrue_Compare1 (thn (h pins s σ H _ I hw) fun v s1 h1 => thn h1 fun u s2 h2 => thn h2 fun c s3 ⟨x, H1, I1, r1, q1⟩ => ?_) h1
  obtain ⟨d, rfl, q⟩ := q1
  cases r1
  exact wpAny_truthy_bool ⟨H1, I1, q⟩
theorem pt_val {e : Expr} {t : TE} (h : PE X e t) (he : ∀ whole, isTrue e X.env whole = (do let v ← whole; standAt e.pos; holding [v] (truthy v)) := by intro _; rfl) : PT X e (tB t) := by
  intro pins s σ H Q I hw
  refine isTrue_plain (thn (h pins s σ H _ I hw) fun v s1 ⟨x, H1, I1, r1, q1⟩ => ?_) (he _)
  obtain ⟨d, rfl, q⟩ := q1
  cases r1
  exact wpAny_truthy_bool ⟨H1, I1, q⟩
variable {tA tB' : TT} {rest : List Expr}
def tAnd (t u : TT) : TT := fun σ H Q => t σ H fun c H1 => if c = true then u σ H1 Q else Q false H1
def tOr (t u : TT) : TT := fun σ H Q => t σ H fun c H1 => if c = true then Q true H1 else u σ H1 Q
def tNot (t : TT) : TT := fun σ H Q => t σ H fun c H1 => Q (!c) H1
theorem pw_and1 (ha : PT X a tA) : PW X (.BoolOp .And [a] pos) tA := by
  intro wh pins s σ H Q I h
  refine isTrue_and (thn (ha pins s σ H Q I h) fun c s1 e => ?_)
  cases c with
  | true => exact isTrue_and_nil e
  | false => exact e
theorem pw_or1 (ha : PT X a tA) : PW X (.BoolOp .Or [a] pos) tA := by
  intro wh pins s σ H Q I h
  refine isTrue_or (thn (ha pins s σ H Q I h) fun c s1 e => ?_)
  cases c with
  | false => exact isTrue_or_nil e
  | true => exact e
theorem pw_and (ha : PT X a tA) (hb : PW X (.BoolOp .And (b :: rest) pos) tB') : PW X (.BoolOp .And (a :: b :: rest) pos) (tAnd tA tB') := by
  intro wh pins s σ H Q I h
  refine isTrue_and (thn (ha pins s σ H _ I h) fun c s1 ⟨H1, I1, q1⟩ => ?_)
  cases c with
  | true => exact hb wh pins s1 σ H1 Q I1 q1
  | false => exact ⟨H1, I1, q1⟩
theorem pw_or (ha : PT X a tA) (hb : PW X (.BoolOp .Or (b :: rest) pos) tB') : PW X (.BoolOp .Or (a :: b :: rest) pos) (tOr tA tB') := by
  intro wh pins s σ H Q I h
  refine isTrue_or (thn (ha pins s σ H _ I h) fun c s1 ⟨H1, I1, q1⟩ => ?_)
  cases c with
  | true => exact ⟨H1, I1, q1⟩
  | false => exact hb wh pins s1 σ H1 Q I1 q1
theorem pt_not (ha : PT X a tA) : PT X (.UnaryOp .Not a pos) (tNot tA) := by
  intro pins s σ H Q I h
  exact isTrue_not (ha pins s σ H (fun c H1 => Q (!c) H1) I h)
def tAndV (ta tb : TE) : TE := fun σ H Q => ta σ H fun x H1 => ∃ c, x = .bl c ∧ if c = true then tb σ H1 Q else Q (.bl false) H1
def tNotV (ta : TE) : TE := fun σ H Q => ta σ H fun x H1 => ∃ c, x = .bl c ∧ Q (.bl (!c)) H1
theorem pe_one {op} {t : TE} (h : PE X a t) : PE X (.BoolOp op [a] pos) t := fun pins s σ H Q I hw => BoolOp_one (h pins s σ H Q I hw)
theorem pe_and (ha : PE X a ta) (hb : PE X (.BoolOp .And (b :: rest) pos) tb) : PE X (.BoolOp .And (a :: b :: rest) pos) (tAndV ta tb) := by
  intro pins s σ H Q I h
  refine BoolOp_and (thn (ha pins s σ H _ I h) fun v s1 ⟨x, H1, I1, r1, q1⟩ => ?_)
  obtain ⟨c, rfl, q1⟩ := q1
  cases r1
  refine wpAny_truthy_bool ?_
  cases c with
  | true => exact hb pins s1 σ H1 Q I1 q1
  | false => exact ⟨.bl false, H1, I1, rfl, q1⟩
theorem pe_not (ha : PE X a ta) : PE X (.UnaryOp .Not a pos) (tNotV ta) := by
  intro pins s σ H Q I h
  refine UnaryOp_ (thn (ha pins s σ H _ I h) fun v s1 ⟨x, H1, I1, r1, q1⟩ => ?_)
  obtain ⟨c, rfl, q1⟩ := q1
  cases r1
  exact not_of (wpAny_truthy_bool ⟨.bl (!c), H1, I1, rfl, q1⟩)
def tIf (t : TT) (ta tb : TE) : TE := fun σ H Q => t σ H fun c H1 => if c = true then ta σ H1 Q else tb σ H1 Q
theorem pe_ifExp {c : Expr} (hc : PT X c tA) (ha : PE X a ta) (hb : PE X b tb) : PE X (.IfExp c a b pos) (tIf tA ta tb) := by
  intro pins s σ H Q I h
  refine wpAny_IfExp (thn (hc pins s σ H _ I h) fun d s1 ⟨H1, I1, q1⟩ => ?_)
  cases d with
  | true => exact ha pins s1 σ H1 Q I1 q1
  | false => exact hb pins s1 σ H1 Q I1 q1
end
end L2
namespace L2
open PySem PySem.Spec PyProof.Rows
def SqL (K : PySem.W.Frag) (H : Hp) (a : Addr) (xs : List V) : Prop :=
  Rd H a (.lst xs) ∨
    ∃ (o : Obj) (its : Array Value) (n : Nat), K.lookup a = some o ∧ o.cls = .type "list" ∧ o.dict = none ∧ o.data = .seq its n ∧ its.size ≤ sizeLine ∧ Vals xs its.toList
def SqT (K : PySem.W.Frag) (H : Hp) (a : Addr) (xs : List V) : Prop :=
  Rd H a (.tup xs) ∨
    ∃ (o : Obj) (its : Array Value) (n : Nat), K.lookup a = some o ∧ o.cls = .type "tuple" ∧ o.data = .seq its n ∧ its.size ≤ sizeLine ∧ Vals xs its.toList
def absV : Value → Option V
  | .none => some .non
  | .bool b => some (.bl b)
  | .int i _ => some (.int i)
  | .str x _ => some (.str x)
  | .bytes b _ => some (.byt b)
  | .float b _ => some (.flt b)
  | .ref a => some (.ref a)
  | .type n => some (.ty n)
  | _ => none
theorem RelV.abs {x : V} {u : Value} (r : RelV x u) : absV u = some x := by
  cases x with
  | non => cases r; rfl
  | bl _ => cases r; rfl
  | int _ => obtain ⟨t, rfl⟩ := r; rfl
  | str _ => obtain ⟨t, rfl⟩ := r; rfl
  | byt _ => obtain ⟨t, rfl⟩ := r; rfl
  | flt _ => obtain ⟨t, rfl⟩ := r; rfl
  | ref _ => cases r; rfl
  | ty _ => cases r; rfl
theorem RelV.inj {x y : V} {u : Value} (r : RelV x u) (q : RelV y u) : x = y := Option.some.inj (r.abs.symm.trans q.abs)
theorem Vals.inj : ∀ {xs ys : List V} {us : List Value}, Vals xs us → Vals ys us → xs = ys
  | _, _, _, .nil, .nil => rfl
  | _, _, _, .cons r t, .cons r' t' => by rw [r.inj r', Vals.inj t t']
section
variable {X : Cx} {pins : List (Addr × Obj)} {σ : St} {H : Hp} {s : Shared} {a : Addr} {xs ys : List V}
theorem SqL.of {K : PySem.W.Frag} (h : H a = some (.lst xs)) : SqL K H a xs := .inl (.inl h)
theorem SqT.of {K : PySem.W.Frag} (h : H a = some (.tup xs)) : SqT K H a xs := .inl (.inl h)
theorem Inv.list (I : Inv X pins σ H s) (h : SqL X.K H a xs) : ∃ its : List Value, Vals xs its ∧ PlainL s.heap a its.toArray ∧ xs.length ≤ sizeLine := by
  rcases h with h | ⟨o, its, n, hk, hc, hd, hs, hz, r⟩
  · obtain ⟨z, its, n, r, e⟩ := h.ok I.hok
    exact ⟨its, r, ⟨_, n, e, rfl, rfl, rfl⟩, z⟩
  · refine ⟨its.toList, r, ⟨o, n, I.kIn a o hk, hc, hd, by simpa using hs⟩, ?_⟩
    have e := r.length
    simp only [Array.length_toList] at e
    omega
theorem Inv.tuple (I : Inv X pins σ H s) (h : SqT X.K H a xs) : ∃ its : List Value, Vals xs its ∧ IsTup s.heap a its.toArray ∧ xs.length ≤ sizeLine := by
  rcases h with h | ⟨o, its, n, hk, hc, hs, hz, r⟩
  · obtain ⟨z, its, r, p⟩ := h.ok I.hok
    exact ⟨its, r, p, z⟩
  · refine ⟨its.toList, r, ⟨o, I.kIn a o hk, hc, n, by simpa using hs⟩, ?_⟩
    have e := r.length
    simp only [Array.length_toList] at e
    omega
theorem Inv.list_inj (I : Inv X pins σ H s) (h : SqL X.K H a xs) (h' : SqL X.K H a ys) : xs = ys := by
  obtain ⟨its, r, ⟨o, n, e, _, _, d⟩, _⟩ := I.list h
  obtain ⟨its', r', ⟨o', n', e', _, _, d'⟩, _⟩ := I.list h'
  rw [e] at e'; cases e'
  rw [d] at d'
  injection d' with d1 _
  have : its = its' := by simpa using congrArg Array.toList d1
  subst this
  exact r.inj r'
theorem Inv.tuple_inj (I : Inv X pins σ H s) (h : SqT X.K H a xs) (h' : SqT X.K H a ys) : xs = ys := by
  obtain ⟨its, r, ⟨o, e, _, n, d⟩, _⟩ := I.tuple h
  obtain ⟨its', r', ⟨o', e', _, n', d'⟩, _⟩ := I.tuple h'
  rw [e] at e'; cases e'
  rw [d] at d'
  injection d' with d1 _
  have : its = its' := by simpa using congrArg Array.toList d1
  subst this
  exact r.inj r'
end
abbrev Cx.wish (X : Cx) (E : Value → Shared → Prop) : Cx := { X with xe := E }
abbrev Cx.nox (X : Cx) : Cx := X.wish fun _ _ => False
theorem Cx.Ok.wish {X : Cx} (ok : X.Ok) (E : Value → Shared → Prop) : (X.wish E).Ok :=
  ⟨ok.mod, ok.kind, ok.glob, ok.blt, ok.above, ok.inj, ok.has, ok.cab, ok.hd, ok.frames, ok.stk, ok.exf, ok.bs, ok.bsz, ok.noex, ok.exfs, ok.funs, ok.frf⟩
theorem Cx.Ok.unwish {X : Cx} {E : Value → Shared → Prop} (ok : (X.wish E).Ok) : X.Ok :=
  ⟨ok.mod, ok.kind, ok.glob, ok.blt, ok.above, ok.inj, ok.has, ok.cab, ok.hd, ok.frames, ok.stk, ok.exf, ok.bs, ok.bsz, ok.noex, ok.exfs, ok.funs, ok.frf⟩
section
variable {X : Cx} {pins : List (Addr × Obj)} {σ : St} {H : Hp} {s : Shared} {E : Value → Shared → Prop}
theorem Inv.wish (I : Inv X pins σ H s) (E : Value → Shared → Prop) : Inv (X.wish E) pins σ H s := ⟨I.ok.wish E, I.os, I.bare, I.base, I.loc, I.cell, I.free, I.freeC, I.pin, I.hok, I.len⟩
theorem Inv.unwish (I : Inv (X.wish E) pins σ H s) : Inv X pins σ H s := ⟨I.ok.unwish, I.os, I.bare, I.base, I.loc, I.cell, I.free, I.freeC, I.pin, I.hok, I.len⟩
theorem SP.unwish {D : Ends} {f : Flow} {s' : Shared} (h : SP (X.wish E) pins D f s') : SP X pins D f s' := by
  cases f with
  | next => obtain ⟨σ', H', I, q⟩ := h; exact ⟨σ', H', I.unwish, q⟩
  | brk => obtain ⟨σ', H', I, q⟩ := h; exact ⟨σ', H', I.unwish, q⟩
  | cont => obtain ⟨σ', H', I, q⟩ := h; exact ⟨σ', H', I.unwish, q⟩
  | ret u => obtain ⟨v, σ', H', I, r, q⟩ := h; exact ⟨v, σ', H', I.unwish, r, q⟩
theorem PSs.nox {st : List Stmt} {t : TS} (h : PSs X.nox st t) : PSs X st t := fun pins s σ H D I hw =>
  wpAny_mono (h pins s σ H D (I.wish _) hw) (fun _ _ q => q.unwish) fun _ _ z => False.elim z
end
section
variable {X : Cx} {st : Stmt} {rest : List Stmt} {t u : TS} {e : Expr} {te : TE} {pos : Pos}
def tNext : TS := fun D σ H => D.nx σ H
def tSeq (t u : TS) : TS := fun D σ H => t { D with nx := u D } σ H
theorem pss_nil : PSs X [] tNext := fun _ _ σ H _ I h => wpAny_execs_nil ⟨σ, H, I, h⟩
theorem pss_cons (h1 : PS X st t) (h2 : PSs X rest u) : PSs X (st :: rest) (tSeq t u) := by
  intro pins s σ H D I h
  refine wpAny_execs_cons (thn (h1 pins s σ H { D with nx := u D } I h) fun f s1 q => ?_)
  cases f with
  | next =>
    obtain ⟨σ', H', I', q⟩ := q
    exact h2 pins s1 σ' H' D I' q
  | ret v => exact q
  | brk => exact q
  | cont => exact q
theorem pss_one (h1 : PS X st t) : PSs X [st] t := by
  intro pins s σ H D I h
  refine wpAny_execs_cons (thn (h1 pins s σ H D I h) fun f s1 q => ?_)
  cases f with
  | next => exact wpAny_execs_nil q
  | ret v => exact q
  | brk => exact q
  | cont => exact q
theorem Inv.quiet {pins : List (Addr × Obj)} {σ : St} {H : Hp} {s : Shared} (I : Inv X pins σ H s) : interactive X.env = false := by simp [interactive, I.ok.kind]
def tDrop (te : TE) : TS := fun D σ H => te σ H fun _ H1 => D.nx σ H1
theorem ps_expr (he : PE X e te) (hs : swapsWith e none pos.line X.env = pure false := by rfl) : PS X (.Expr e pos) (tDrop te) := by
  intro pins s σ H D I h
  exact wpAny_Expr_any (thn (he pins s σ H _ I h) fun v s1 ⟨x, H1, I1, r1, q1⟩ => ⟨σ, H1, I1, q1⟩) I.quiet hs
def tRet (te : TE) : TS := fun D σ H => te σ H D.rt
theorem ps_ret (he : PE X e te) : PS X (.Return (some e) pos) (tRet te) := by
  intro pins s σ H D I h
  exact wpAny_Return_some (thn (he pins s σ H _ I h) fun v s1 ⟨x, H1, I1, r1, q1⟩ => ⟨x, σ, H1, I1, r1, q1⟩)
def tIfS (c : TT) (t u : TS) : TS := fun D σ H => c σ H fun b H1 => if b = true then t D σ H1 else u D σ H1
theorem ps_if {c : Expr} {a b : List Stmt} {tc : TT} (hc : PT X c tc) (ha : PSs X a t) (hb : PSs X b u) : PS X (.If c a b pos) (tIfS tc t u) := by
  intro pins s σ H D I h
  refine wpAny_If (thn (hc pins s σ H _ I h) fun d s1 ⟨H1, I1, q1⟩ => ?_)
  cases d with
  | true => exact ha pins s1 σ H1 D I1 q1
  | false => exact hb pins s1 σ H1 D I1 q1
def tNever : TS := fun _ _ _ => False
theorem pss_never {sts : List Stmt} : PSs X sts tNever := fun _ _ _ _ _ _ h => h.elim
end
abbrev TG := V → St → Hp → (St → Hp → Prop) → Prop
abbrev TGs := List V → St → Hp → (St → Hp → Prop) → Prop
def PG (X : Cx) (target : Expr) (t : TG) : Prop :=
  ∀ (pins : List (Addr × Obj)) (s : Shared) (σ : St) (H : Hp) (v : V) (u : Value) (Q : St → Hp → Prop), Inv X pins σ H s → RelV v u → t v σ H Q →
    wpAny (model X.prog X.w) X.A (assign target X.env u) (fun _ s' => ∃ σ' H', Inv X pins σ' H' s' ∧ Q σ' H') X.xe s
def PGs (X : Cx) (ts : List Expr) (t : TGs) : Prop :=
  ∀ (pins : List (Addr × Obj)) (s : Shared) (σ : St) (H : Hp) (vs : List V) (us : List Value) (Q : St → Hp → Prop), Inv X pins σ H s → Vals vs us → t vs σ H Q →
    wpAny (model X.prog X.w) X.A (assignInOrder ((assignEach ts X.env).map (·.2)) us) (fun _ s' => ∃ σ' H', Inv X pins σ' H' s' ∧ Q σ' H') X.xe s
abbrev TSet := V → V → V → Hp → (Hp → Prop) → Prop
def PSet (X : Cx) (t : TSet) : Prop :=
  ∀ (pins : List (Addr × Obj)) (s : Shared) (σ : St) (H : Hp) (o i v : V) (ov iv u : Value) (Q : Hp → Prop), Inv X pins σ H s → RelV o ov → RelV i iv → RelV v u → t o i v H Q →
    wpAny (model X.prog X.w) X.A (setItem ov iv u) (fun _ s' => ∃ H', Inv X pins σ H' s' ∧ Q H') X.xe s
section
variable {X : Cx} {pos : Pos}
def gName (i : Nat) : TG := fun v σ H Q => Q (σ.set i (some v)) H
theorem pg_name {i : Nat} {x : Str} (hN : X.N.Nodup) (hi : X.N[i]? = some x) (hx : Loc X.env.scope x) (hf : X.fn x = true ∨ X.env.scope.names.lookup x = some .local := by first | exact .inl rfl | exact .inr rfl | assumption) : PG X (.Name x pos) (gName i) := by
  intro pins s σ H v u Q I r h
  exact wpAny_assign_Name (store_ok I hN hi hx r (fun s' I' => ⟨_, H, I', h⟩) hf)
def gNil : TGs := fun vs σ H Q => vs = [] ∧ Q σ H
def gCons (t : TG) (u : TGs) : TGs := fun vs σ H Q => ∃ v r, vs = v :: r ∧ t v σ H fun σ' H' => u r σ' H' Q
theorem pgs_nil : PGs X [] gNil := by
  intro pins s σ H vs us Q I r h
  obtain ⟨e, h⟩ := h
  subst e
  cases r
  exact assignInOrder_nil ⟨σ, H, I, h⟩
theorem pgs_cons {e : Expr} {es : List Expr} {t : TG} {u : TGs} (h1 : PG X e t) (h2 : PGs X es u)
    (hs : (assignEach (e :: es) X.env).map (·.2) = assign e X.env :: (assignEach es X.env).map (·.2) := by rfl) : PGs X (e :: es) (gCons t u) := by
  intro pins s σ H vs us Q I r h
  obtain ⟨v, vr, e1, h⟩ := h
  subst e1
  cases r with
  | cons r rr =>
    rw [hs]
    refine assignInOrder_cons (thn (h1 pins s σ H _ _ _ I r h) fun _ s1 ⟨σ1, H1, I1, q1⟩ => ?_)
    exact h2 pins s1 σ1 H1 _ _ Q I1 rr q1
def gTup (K : PySem.W.Frag) (n : Nat) (t : TGs) : TG := fun v σ H Q => ∃ a xs, v = .ref a ∧ SqT K H a xs ∧ xs.length = n ∧ t xs σ H Q
theorem pg_tup {es : List Expr} {k : Nat} {t : TGs} {n : Nat} (hc : X.calm = true) (h : PGs X es t)
    (hn : (assignEach es X.env).length = n := by rfl) (hst : (assignEach es X.env).findIdx? (·.1) = none := by rfl) : PG X (.Tuple es k pos) (gTup X.K n t) := by
  intro pins s σ H v u Q I r hw
  obtain ⟨a, xs, e1, hq, hl, hw⟩ := hw
  subst e1
  cases r
  obtain ⟨its, rv, ht, hz⟩ := I.tuple hq
  refine assign_Tuple_tuple (I.ok.hd hc) ht (by simp [hn, ← hl, rv.length]) hst fun h' hx => ?_
  have I1 : Inv X pins σ H { s with heap := h' } := I.kept (t' := s.toks) fun b o e => hx b o (Nat.ne_of_lt (Heap.lt_size e)) e
  exact h pins _ σ H xs _ Q I1 (by simpa using rv) hw
def gSub (to ti : TE) (t : TSet) : TG := fun v σ H Q => to σ H fun o H1 => ti σ H1 fun i H2 => t o i v H2 fun H3 => Q σ H3
theorem pg_sub {o i : Expr} {to ti : TE} {t : TSet} (ho : PE X o to) (hi : PE X i ti) (hs : PSet X t)
    (ha : ∀ v, assign (.Subscript o i pos) X.env v = (do
      let ov ← holding [v] (eval o X.env)
      let iv ← holding [v, ov] (eval i X.env)
      standAt pos
      holding [v, ov, iv] (setItem ov iv v)
      release [v, ov, iv] []) := by intro _; rfl) : PG X (.Subscript o i pos) (gSub to ti t) := by
  intro pins s σ H v u Q I r h
  rw [ha]
  refine wpAny_bind (wpAny_holding (thn (ho pins s σ H _ I h) fun ov s1 ⟨x, H1, I1, r1, q1⟩ => ?_))
  refine wpAny_bind (wpAny_holding (thn (hi pins s1 σ H1 _ I1 q1) fun iv s2 ⟨y, H2, I2, r2, q2⟩ => ?_))
  refine wpAny_bind (wpAny_standAt (wpAny_bind (wpAny_holding (thn (hs pins s2 σ H2 x y v ov iv u _ I2 r1 r2 r q2) fun _ s3 ⟨H3, I3, q3⟩ => ?_))))
  exact wpAny_release ⟨σ, H3, I3, q3⟩
def tAsg (te : TE) (g : TG) : TS := fun D σ H => te σ H fun x H1 => g x σ H1 D.nx
theorem ps_asg {tg e : Expr} {te : TE} {g : TG} (he : PE X e te) (hg : PG X tg g) (hs : swapsWithSole [tg] e pos.line X.env = pure false := by rfl) (hw : swappedStores [tg] e X.env = pure none := by rfl)
    (h1 : (assignEach [tg] X.env).map (·.2) = [assign tg X.env] := by rfl) : PS X (.Assign [tg] e pos) (tAsg te g) := by
  intro pins s σ H D I h
  refine wpAny_Assign_stores (thn (he pins s σ H _ I h) fun v s1 ⟨x, H1, I1, r1, q1⟩ => ?_) hs hw
  rw [h1]
  exact thn (hg pins s1 σ H1 x v _ I1 r1 q1) fun _ s2 q => q
theorem ps_set {i : Nat} {x : Str} {e : Expr} {te : TE} {pos' : Pos} (hN : X.N.Nodup) (hi : X.N[i]? = some x) (hx : Loc X.env.scope x) (he : PE X e te) (hs : swapsWith e (some (.Name x pos')) pos.line X.env = pure false := by rfl) (hf : X.fn x = true ∨ X.env.scope.names.lookup x = some .local := by first | exact .inl rfl | exact .inr rfl | assumption) :
    PS X (.Assign [.Name x pos'] e pos) (tAsg te (gName i)) := by
  intro pins s σ H D I h
  refine wpAny_Assign_Name (thn (he pins s σ H _ I h) fun v s1 ⟨y, H1, I1, r1, q1⟩ => ?_) hs
  exact store_ok I1 hN hi hx r1 (fun s2 I2 => ⟨_, H1, I2, q1⟩) hf
end
section
variable {X : Cx} {pos : Pos}
end
structure It where
  go : Nat → Hp → Prop
  yld : Nat → Hp → V → Hp → Prop
  stop : Nat → Hp → Prop
def FpOk (X : Cx) (pins : List (Addr × Obj)) (H : Hp) (b : Addr) : Prop :=
  H b = none ∧ b ≠ X.env.locals ∧ b ∉ X.fs ∧ (b ∈ X.ex ∨ X.s₀.heap.objs.size ≤ b) ∧ (∀ x c, X.env.cells.lookup x = some c → c ≠ b) ∧ ∀ p ∈ X.pn ++ pins, p.1 ≠ b
theorem Inv.fpOk {X : Cx} {pins : List (Addr × Obj)} {σ : St} {H H' : Hp} {s : Shared} {b : Addr} (I : Inv X pins σ H s) (hb : s.heap.objs.size ≤ b) (hn : H' b = none) : FpOk X pins H' b := by
  refine ⟨hn, Nat.ne_of_gt (Nat.lt_of_lt_of_le I.lt hb), I.nofs hb, .inr (Nat.le_trans I.sz hb), fun x c e z => ?_, fun p hp z => ?_⟩
  · obtain ⟨v, q⟩ := I.cell x c e
    exact absurd (Nat.lt_of_lt_of_le q.lt (by rw [z]; exact hb)) (Nat.lt_irrefl _)
  · exact absurd (Nat.lt_of_lt_of_le (Heap.lt_size (I.pin p hp).1) (by rw [z]; exact hb)) (Nat.lt_irrefl _)
structure Turn (P : Program) (w : World) (K : PySem.W.Frag) (tg : Expr) (J : It) (fp : List Addr) (it : Addr) (tn : Nat → Heap → Prop) : Prop where
  mem : it ∈ fp
  obj : ∀ i h, tn i h → ∀ b ∈ fp, ∃ o, h.get? b = some o ∧ ∀ v, o.data ≠ .cell v
  keep : ∀ i h h', tn i h → (∀ b ∈ fp, ∀ o, h.get? b = some o → h'.get? b = some o) → tn i h'
  item : ∀ (X : Cx), X.prog = P → X.w = w → X.K = K → X.calm = true → ∀ (i : Nat) (pins : List (Addr × Obj)) (s : Shared) (σ : St) (H : Hp) (E : Value → Shared → Prop), Inv X pins σ H s → (∀ b ∈ fp, FpOk X pins H b) → tn i s.heap → J.go i H →
    wpAny (model P w) X.A (pyNext (.ref it)) (fun r s1 => ∃ u, r = some u ∧
      wpAny (model P w) X.A (letOwnedTupleGo tg (.ref it) u) (fun _ s2 => ∃ x H', Inv X pins σ H' s2 ∧ RelV x u ∧ J.yld i H x H' ∧ tn (i + 1) s2.heap ∧ ∀ b ∈ fp, H' b = none) E s1) E s
  done : ∀ (X : Cx), X.prog = P → X.w = w → X.K = K → X.calm = true → ∀ (i : Nat) (pins : List (Addr × Obj)) (s : Shared) (σ : St) (H : Hp) (E : Value → Shared → Prop), Inv X pins σ H s → (∀ b ∈ fp, FpOk X pins H b) → tn i s.heap → J.stop i H →
    wpAny (model P w) X.A (pyNext (.ref it)) (fun r s1 => r = none ∧ Inv X pins σ H s1) E s
  self : ∀ (A : Around) (i : Nat) (s : Shared) (Q : Value → Shared → Prop) (E : Value → Shared → Prop), tn i s.heap → Q (.ref it) s → wpAny (model P w) A (pyIter (.ref it)) Q E s
abbrev TI := St → Hp → (It → Hp → Prop) → Prop
def PIE (X : Cx) (pins : List (Addr × Obj)) (σ : St) (tg : Expr) (R : It → Hp → Prop) (itv : Value) (s2 : Shared) : Prop :=
  ∃ (it : Addr) (fp : List Addr) (tn : Nat → Heap → Prop) (J : It) (H' : Hp), itv = .ref it ∧ Inv X pins σ H' s2 ∧ Turn X.prog X.w X.K tg J fp it tn ∧ tn 0 s2.heap ∧ (∀ b ∈ fp, FpOk X pins H' b) ∧ R J H'
def PI (X : Cx) (tg iter : Expr) (wi : TI) : Prop :=
  ∀ (pins : List (Addr × Obj)) (s : Shared) (σ : St) (H : Hp) (R : It → Hp → Prop), Inv X pins σ H s → wi σ H R →
    wpAny (model X.prog X.w) X.A (eval iter X.env) (fun v s1 => wpAny (model X.prog X.w) X.A (pyIter v) (PIE X pins σ tg R) X.xe s1) X.xe s
theorem go_of {M : Model} {A : Around} {E : Value → Shared → Prop} {s : Shared} {tg : Expr} {it : Addr} {u : Value} {o : Obj} {n : String} {vs : Array Value} {Q : Unit → Shared → Prop} (ho : s.heap.get? it = some o) (hc : o.cls = .type n) (hd : o.data = .fields vs)
    (hn : ["enumerate", "zip", "dict_itemiterator", "dict_reverseitemiterator", "odict_iterator", "itertools.zip_longest", "itertools.pairwise"].contains n = false) (hQ : Q () s) : wpAny M A (letOwnedTupleGo tg (.ref it) u) Q E s := by
  unfold letOwnedTupleGo
  cases tg <;> first
    | exact wpAny_pure hQ
    | (cases u <;> first
        | exact wpAny_pure hQ
        | (refine wpAny_bind (wpAny_load ho ?_)
           rw [hc, hd]
           show wpAny M A (if (["enumerate", "zip", "dict_itemiterator", "dict_reverseitemiterator", "odict_iterator", "itertools.zip_longest", "itertools.pairwise"].contains n && vs[0]? == some (rawInt _)) = true then _ else _) Q E s
           rw [if_neg (by intro h; rw [hn, Bool.false_and] at h; cases h)]
           exact wpAny_pure hQ))
def Itl (K : PySem.W.Frag) (a : Addr) : It :=
  ⟨fun i H => ∃ xs x, SqL K H a xs ∧ xs[i]? = some x, fun i H x H' => H' = H ∧ ∀ xs, SqL K H a xs → xs[i]? = some x, fun i H => ∃ xs, SqL K H a xs ∧ xs.length ≤ i⟩
def Itt (K : PySem.W.Frag) (a : Addr) : It :=
  ⟨fun i H => ∃ xs x, SqT K H a xs ∧ xs[i]? = some x, fun i H x H' => H' = H ∧ ∀ xs, SqT K H a xs → xs[i]? = some x, fun i H => ∃ xs, SqT K H a xs ∧ xs.length ≤ i⟩
def Itr (lo : Int) (n : Nat) : It := ⟨fun i _ => i < n, fun i H x H' => H' = H ∧ x = .int (lo + i), fun i _ => n ≤ i⟩
theorem turn_list {P : Program} {w : World} {K : PySem.W.Frag} {tg : Expr} (a it : Addr) : Turn P w K tg (Itl K a) [it] it (fun i h => h.IsListIter it a i) where
  mem := by simp
  obj := fun i h st b hb => by
    have e : b = it := by simpa using hb
    subst e
    obtain ⟨o, e, c, d⟩ := st
    exact ⟨o, e, fun v z => by rw [d] at z; cases z⟩
  keep := fun i h h' st k => st.at fun o e => k it (by simp) o e
  item := by
    intro X hP hw hK hc i pins s σ H E I hf st hg
    subst hP hw hK
    obtain ⟨xs, x, hq, hx⟩ := hg
    obtain ⟨its, rv, p, hz⟩ := I.list hq
    obtain ⟨u, hu, ru⟩ := rv.get hx
    obtain ⟨f0, f1, f2, f3, f4, f5⟩ := hf it (by simp)
    refine wpAny_pyNext_list_item st p.isList (x := u) (by simpa using hu) fun h' st' sb => ?_
    have I1 : Inv X pins σ H { s with heap := h' } := I.turned (t' := s.toks) (fun b o hb e => (sb.2 b hb).trans e) f0 f1 f3 f4 f5
    obtain ⟨o, e, c, d⟩ := id st'
    exact ⟨u, rfl, go_of (s := { s with heap := h' }) e c d (by decide) ⟨x, H, I1, ru, ⟨rfl, fun ys hy => by rw [I.list_inj hy hq]; exact hx⟩, st', fun b hb => (hf b hb).1⟩⟩
  done := by
    intro X hP hw hK hc i pins s σ H E I hf st hg
    subst hP hw hK
    obtain ⟨xs, hq, hx⟩ := hg
    obtain ⟨its, rv, p, hz⟩ := I.list hq
    obtain ⟨f0, f1, f2, f3, f4, f5⟩ := hf it (by simp)
    have hl := rv.length
    exact wpAny_pyNext_list_end (I.ok.hd hc) st p.isList (by simp; omega) fun h' eb => ⟨rfl, I.turned (t' := s.toks) (fun b o hb e => eb b o hb e) f0 f1 f3 f4 f5⟩
  self := fun _ _ _ _ _ st h => wpAny_pyIter_listiter st h
theorem turn_tuple {P : Program} {w : World} {K : PySem.W.Frag} {tg : Expr} (a it : Addr) : Turn P w K tg (Itt K a) [it] it (fun i h => h.IsTupleIter it a i) where
  mem := by simp
  obj := fun i h st b hb => by
    have e : b = it := by simpa using hb
    subst e
    obtain ⟨o, e, c, d⟩ := st
    exact ⟨o, e, fun v z => by rw [d] at z; cases z⟩
  keep := fun i h h' st k => st.at fun o e => k it (by simp) o e
  item := by
    intro X hP hw hK hc i pins s σ H E I hf st hg
    subst hP hw hK
    obtain ⟨xs, x, hq, hx⟩ := hg
    obtain ⟨its, rv, p, hz⟩ := I.tuple hq
    obtain ⟨u, hu, ru⟩ := rv.get hx
    obtain ⟨f0, f1, f2, f3, f4, f5⟩ := hf it (by simp)
    refine wpAny_pyNext_tuple_item st (show s.heap.IsTuple a its.toArray from p) (x := u) (by simpa using hu) fun h' st' sb => ?_
    have I1 : Inv X pins σ H { s with heap := h' } := I.turned (t' := s.toks) (fun b o hb e => (sb.2 b hb).trans e) f0 f1 f3 f4 f5
    obtain ⟨o, e, c, d⟩ := id st'
    exact ⟨u, rfl, go_of (s := { s with heap := h' }) e c d (by decide) ⟨x, H, I1, ru, ⟨rfl, fun ys hy => by rw [I.tuple_inj hy hq]; exact hx⟩, st', fun b hb => (hf b hb).1⟩⟩
  done := by
    intro X hP hw hK hc i pins s σ H E I hf st hg
    subst hP hw hK
    obtain ⟨xs, hq, hx⟩ := hg
    obtain ⟨its, rv, p, hz⟩ := I.tuple hq
    obtain ⟨f0, f1, f2, f3, f4, f5⟩ := hf it (by simp)
    have hl := rv.length
    exact wpAny_pyNext_tuple_end (I.ok.hd hc) st (show s.heap.IsTuple a its.toArray from p) (by simp; omega) fun h' eb => ⟨rfl, I.turned (t' := s.toks) (fun b o hb e => eb b o hb e) f0 f1 f3 f4 f5⟩
  self := fun _ _ _ _ _ st h => wpAny_pyIter_tupleiter st h
theorem turn_range {P : Program} {w : World} {K : PySem.W.Frag} {tg : Expr} (it : Addr) (lo : Int) (n : Nat) : Turn P w K tg (Itr lo n) [it] it (fun i h => IsRangeIter h it (lo + (i : Nat) * 1) ((n : Int) - (i : Nat)) 1) where
  mem := by simp
  obj := fun i h st b hb => by
    have e : b = it := by simpa using hb
    subst e
    exact ⟨_, st, fun v z => by
      have z' : Data.fields _ = Data.cell v := z
      cases z'⟩
  keep := fun i h h' st k => k it (by simp) _ st
  item := by
    intro X hP hw hK hc i pins s σ H E I hf st hg
    subst hP hw hK
    obtain ⟨f0, f1, f2, f3, f4, f5⟩ := hf it (by simp)
    have W := Walks.range (prog := X.prog) (w := X.w) (I.ok.hd hc) it lo 1 n
    refine W.item i s _ _ hg st fun v h' tk hv st' kk => ?_
    obtain ⟨t, rfl⟩ := hv
    have I1 : Inv X pins σ H { s with heap := h', toks := tk } := I.turned (fun b o hb e => kk b o (by simpa using hb) e) f0 f1 f3 f4 f5
    refine ⟨_, rfl, go_of (s := { s with heap := h', toks := tk }) (n := "range_iterator") st' rfl rfl (by decide) ⟨.int (lo + i), H, I1, ⟨t, ?_⟩, ⟨rfl, rfl⟩, st', fun b hb => (hf b hb).1⟩⟩
    rw [Int.mul_one]
  done := by
    intro X hP hw hK hc i pins s σ H E I hf st hg
    subst hP hw hK
    obtain ⟨f0, f1, f2, f3, f4, f5⟩ := hf it (by simp)
    exact wpAny_pyNext_range_end (I.ok.hd hc) st (by have : n ≤ i := hg; omega) fun h' eb => ⟨rfl, I.turned (t' := s.toks) (fun b o hb e => eb b o hb e) f0 f1 f3 f4 f5⟩
  self := fun _ _ _ _ _ st h => wpAny_pyIter_rangeiter st h
end L2
namespace L2
open PySem PySem.Spec PyProof.Rows
section
variable {X : Cx} {tg : Expr}
def iList (K : PySem.W.Frag) (tl : TE) : TI := fun σ H R => tl σ H fun x H1 => ∃ a, x = .ref a ∧ (∃ xs, SqL K H1 a xs) ∧ R (Itl K a) H1
def iTup (K : PySem.W.Frag) (tl : TE) : TI := fun σ H R => tl σ H fun x H1 => ∃ a, x = .ref a ∧ (∃ xs, SqT K H1 a xs) ∧ R (Itt K a) H1
theorem pi_list {l : Expr} {tl : TE} (hl : PE X l tl) : PI X tg l (iList X.K tl) := by
  intro pins s σ H R I h
  refine thn (hl pins s σ H _ I h) fun v s1 ⟨x, H1, I1, r1, q1⟩ => ?_
  obtain ⟨a, e, ⟨xs, hq⟩, q⟩ := q1
  subst e
  cases r1
  obtain ⟨its, rv, p, hz⟩ := I1.list hq
  refine wpAny_pyIter_list p.isList ?_
  refine ⟨s1.heap.objs.size, [s1.heap.objs.size], _, _, H1, rfl, I1.kept (t' := s1.toks) fun b o e => Heap.get?_push_of_some _ e, turn_list a _, ⟨_, Heap.get?_push_size _ rfl, rfl, rfl⟩, fun b hb => ?_, q⟩
  have e : b = s1.heap.objs.size := by simpa using hb
  subst e
  exact I1.fpOk (Nat.le_refl _) (I1.hok.fresh (Nat.le_refl _))
theorem pi_tup {l : Expr} {tl : TE} (hl : PE X l tl) : PI X tg l (iTup X.K tl) := by
  intro pins s σ H R I h
  refine thn (hl pins s σ H _ I h) fun v s1 ⟨x, H1, I1, r1, q1⟩ => ?_
  obtain ⟨a, e, ⟨xs, hq⟩, q⟩ := q1
  subst e
  cases r1
  obtain ⟨its, rv, p, hz⟩ := I1.tuple hq
  refine wpAny_pyIter_tuple (show s1.heap.IsTuple a its.toArray from p) ?_
  refine ⟨s1.heap.objs.size, [s1.heap.objs.size], _, _, H1, rfl, I1.kept (t' := s1.toks) fun b o e => Heap.get?_push_of_some _ e, turn_tuple a _, ⟨_, Heap.get?_push_size _ rfl, rfl, rfl⟩, fun b hb => ?_, q⟩
  have e : b = s1.heap.objs.size := by simpa using hb
  subst e
  exact I1.fpOk (Nat.le_refl _) (I1.hok.fresh (Nat.le_refl _))
theorem range_it {pins : List (Addr × Obj)} {σ : St} {H : Hp} {s : Shared} {R : It → Hp → Prop} {E : Value → Shared → Prop} {lo hi : Int} {t u v : Tok} {tk : Nat} (I : Inv X pins σ H s) (h1 : -(2 ^ 62) ≤ lo) (h2 : lo < 2 ^ 62) (h3 : -(2 ^ 62) ≤ hi) (h4 : hi < 2 ^ 62)
    (q : R (Itr lo (hi - lo).toNat) H) : wpAny (model X.prog X.w) X.A (pyIter (.ref s.heap.objs.size)) (PIE X pins σ tg R) E { s with heap := s.heap.push { cls := .type "range", data := .fields #[.int lo t, .int hi u, .int 1 v] }, toks := tk } := by
  refine wpAny_pyIter_range (IsRange.new ..) (small_one h1 h2 h3 h4) ?_
  have I1 : Inv X pins σ H { s with heap := s.heap.push { cls := .type "range", data := .fields #[.int lo t, .int hi u, .int 1 v] }, toks := tk } := I.kept fun b o e => Heap.get?_push_of_some _ e
  refine ⟨(s.heap.push { cls := .type "range", data := .fields #[.int lo t, .int hi u, .int 1 v] }).objs.size, [(s.heap.push { cls := .type "range", data := .fields #[.int lo t, .int hi u, .int 1 v] }).objs.size], _, _, H, rfl,
    I1.kept (t' := tk) fun b o e => Heap.get?_push_of_some _ e, turn_range _ lo (hi - lo).toNat, ?_, fun b hb => ?_, q⟩
  · have e1 : lo + ((0 : Nat) : Int) * 1 = lo := by simp
    have e2 : (((hi - lo).toNat : Nat) : Int) - ((0 : Nat) : Int) = Builtin.Range.rangeSize lo hi 1 := by rw [rangeSize_one]; split <;> omega
    show IsRangeIter _ _ (lo + ((0 : Nat) : Int) * 1) ((((hi - lo).toNat : Nat) : Int) - ((0 : Nat) : Int)) 1
    rw [e1, e2]
    exact Heap.get?_push_size _ rfl
  · have e : b = (s.heap.push { cls := .type "range", data := .fields #[.int lo t, .int hi u, .int 1 v] }).objs.size := by simpa using hb
    subst e
    exact I1.fpOk (Nat.le_refl _) (I1.hok.fresh (Nat.le_refl _))
def iRng1 (ta : TA) : TI := fun σ H R => ta σ H fun vs H1 => ∃ j : Int, vs = [.int j] ∧ -(2 ^ 62) ≤ j ∧ j < 2 ^ 62 ∧ R (Itr 0 j.toNat) H1
theorem pi_range1 {a : Expr} {ta : TA} {p pos : Pos} (hg : Gl X "range") (hm : X.mg "range" = none) (ha : PA X [a] ta) (hs : starEach [a] X.env = [(false, eval a X.env)] := by rfl) : PI X tg (.Call (.Name "range" p) [a] [] pos) (iRng1 ta) := by
  intro pins s σ H R I h
  refine Call_ (ld_blt I hg hm boot_range (PyProof.Rows.callWith_type1 (thn (ha pos pins s σ H _ I h) fun us s1 ⟨vs, H1, I1, r1, q1⟩ => ?_) hs rfl))
  obtain ⟨j, e, q1, q2, q⟩ := q1
  subst e
  cases r1 with
  | cons r rr =>
    cases rr
    obtain ⟨t, rfl⟩ := r
    exact call_range_1 (range_it I1 (by omega) (by omega) q1 q2 (by simpa using q))
def tFor (wi : TI) (g : TG) (tb : TS) : TS := fun D σ H => wi σ H fun J H1 => ∃ W : Nat → Nat → St → Hp → Prop, (∃ m, W 0 m σ H1) ∧ ∀ i m σ H, W i m σ H →
  (J.stop i H ∧ D.nx σ H) ∨ (J.go i H ∧ ∃ N : St → Hp → Prop, (∀ σ' H', N σ' H' → ∃ m', m' < m ∧ W (i + 1) m' σ' H') ∧ ∀ x H', J.yld i H x H' → g x σ H' fun σ2 H2 => tb { D with nx := N, ct := N, bk := D.nx } σ2 H2)
def pinsAt (fp : List Addr) (h : Heap) : List (Addr × Obj) := fp.filterMap fun b => (h.get? b).map fun o => (b, o)
theorem mem_pinsAt {fp : List Addr} {h : Heap} {b : Addr} {o : Obj} (hb : b ∈ fp) (e : h.get? b = some o) : (b, o) ∈ pinsAt fp h := List.mem_filterMap.mpr ⟨b, hb, by rw [e]; rfl⟩
theorem of_pinsAt {fp : List Addr} {h : Heap} {p : Addr × Obj} (hp : p ∈ pinsAt fp h) : p.1 ∈ fp ∧ h.get? p.1 = some p.2 := by
  obtain ⟨b, hb, e⟩ := List.mem_filterMap.mp hp
  cases q : h.get? b with
  | none => rw [q] at e; cases e
  | some o =>
    rw [q] at e
    have e' : (b, o) = p := Option.some.inj e
    subst e'
    exact ⟨hb, q⟩
theorem Inv.pinned {pins : List (Addr × Obj)} {σ : St} {H : Hp} {s : Shared} {fp : List Addr} (I : Inv X pins σ H s) (hf : ∀ b ∈ fp, FpOk X pins H b) (ho : ∀ b ∈ fp, ∃ o, s.heap.get? b = some o ∧ ∀ v, o.data ≠ .cell v) : Inv X (pins ++ pinsAt fp s.heap) σ H s :=
  I.pins_of fun p hp => (List.mem_append.mp hp).elim (fun z => I.pin p (List.mem_append_right _ z)) fun z => by
    obtain ⟨hb, e⟩ := of_pinsAt z
    obtain ⟨f0, f1, f2, _⟩ := hf p.1 hb
    obtain ⟨o, e', d⟩ := ho p.1 hb
    rw [e] at e'; cases e'
    exact ⟨e, f0, f1, f2, d⟩
theorem Inv.unpinned {pins pl : List (Addr × Obj)} {σ : St} {H : Hp} {s : Shared} (I : Inv X (pins ++ pl) σ H s) : Inv X pins σ H s := I.pins_of fun p hp => I.pin p (List.mem_append_right _ (List.mem_append_left _ hp))
theorem ps_for {iter : Expr} {body : List Stmt} {wi : TI} {g : TG} {tb : TS} {pos : Pos} (hp : PassesOwn (model X.prog X.w) X.A X.env X.xe) (hc : X.calm = true) (hi : PI X tg iter wi) (hg : PG X tg g) (hb : PSs X body tb)
    (hs : ∀ x, foldedSetIterable iter X.env x = pure x := by intro _; rfl) : PS X (.For tg iter body [] pos) (tFor wi g tb) := by
  intro pins s σ H D I h
  refine wpAny_For (thn (hi pins s σ H _ I h) fun v s1 h1 => thn h1 fun itv s2 h2 => ?_) hs
  obtain ⟨it, fp, tn, J, H2, e, I2, T, st2, f2, W, ⟨m0, w0⟩, turn⟩ := h2
  subst e
  have stat : ∀ {H' : Hp}, (∀ b ∈ fp, H' b = none) → ∀ b ∈ fp, FpOk X pins H' b := fun hn b hb => ⟨hn b hb, (f2 b hb).2⟩
  refine codeAny_forLoop_any (fun n s' => ∃ i σ' H', Inv X pins σ' H' s' ∧ tn i s'.heap ∧ (∀ b ∈ fp, H' b = none) ∧ W i n σ' H') ?_ m0 ⟨0, σ, H2, I2, st2, fun b hb => (f2 b hb).1, w0⟩
  rintro n s3 ⟨i, σ3, H3, I3, st3, fr3, w3⟩
  rcases turn i n σ3 H3 w3 with ⟨stop, qn⟩ | ⟨go, N, hN, step⟩
  · refine wpAny_passesOwn hp (thn (T.done X rfl rfl rfl hc i pins s3 σ3 H3 X.xe I3 (stat fr3) st3 stop) fun r s4 ⟨hr, I4⟩ => ?_)
    subst hr
    exact wpAny_execs_nil ⟨σ3, H3, I4, qn⟩
  · refine wpAny_passesOwn hp (thn (T.item X rfl rfl rfl hc i pins s3 σ3 H3 X.xe I3 (stat fr3) st3 go) fun r s4 ⟨u, hr, h4⟩ => ?_)
    subst hr
    refine wpAny_passesOwn hp (thn h4 fun _ s5 ⟨x, H5, I5, r5, y5, st5, fr5⟩ => ?_)
    have I5' := I5.pinned (stat fr5) (T.obj _ _ st5)
    refine wpAny_passesOwn hp (thn (hg _ s5 σ3 H5 x u _ I5' r5 (step x H5 y5)) fun _ s6 ⟨σ6, H6, I6, q6⟩ => ?_)
    refine wpAny_passesOwn hp (thn (hb _ s6 σ6 H6 _ I6 q6) fun f s7 q7 => ?_)
    have again : ∀ {σ7 : St} {H7 : Hp}, Inv X (pins ++ pinsAt fp s5.heap) σ7 H7 s7 → N σ7 H7 → ∃ m, m < n ∧ ∃ i σ' H', Inv X pins σ' H' s7 ∧ tn i s7.heap ∧ (∀ b ∈ fp, H' b = none) ∧ W i m σ' H' := fun {σ7 H7} I7 n7 => by
      obtain ⟨m', hm, w7⟩ := hN σ7 H7 n7
      refine ⟨m', hm, i + 1, σ7, H7, I7.unpinned, T.keep _ _ _ st5 fun b hb o e => (I7.pin (b, o) (List.mem_append_right _ (List.mem_append_right _ (mem_pinsAt hb e)))).1, fun b hb => ?_, w7⟩
      obtain ⟨o, e, d⟩ := T.obj _ _ st5 b hb
      exact (I7.pin (b, o) (List.mem_append_right _ (List.mem_append_right _ (mem_pinsAt hb e)))).2.1
    cases f with
    | next => obtain ⟨σ7, H7, I7, n7⟩ := q7; exact again I7 n7
    | cont => obtain ⟨σ7, H7, I7, n7⟩ := q7; exact again I7 n7
    | brk => obtain ⟨σ7, H7, I7, q7⟩ := q7; exact ⟨σ7, H7, I7.unpinned, q7⟩
    | ret v => obtain ⟨x7, σ7, H7, I7, r7, q7⟩ := q7; exact ⟨x7, σ7, H7, I7.unpinned, r7, q7⟩
end
theorem for_list {K : PySem.W.Frag} {a : Addr} {xs : List V} {g : TG} {tb : TS} {D : Ends} {σ : St} {H : Hp} (Pv : Nat → St → Hp → Prop) (h0 : Pv 0 σ H) (hl : ∀ i σ H, i ≤ xs.length → Pv i σ H → SqL K H a xs)
    (hs : ∀ i x σ H, xs[i]? = some x → Pv i σ H → g x σ H fun σ2 H2 => tb { D with nx := Pv (i + 1), ct := Pv (i + 1), bk := D.nx } σ2 H2) (hd : ∀ σ H, Pv xs.length σ H → D.nx σ H) :
    ∃ W : Nat → Nat → St → Hp → Prop, (∃ m, W 0 m σ H) ∧ ∀ i m σ H, W i m σ H →
      ((Itl K a).stop i H ∧ D.nx σ H) ∨ ((Itl K a).go i H ∧ ∃ N : St → Hp → Prop, (∀ σ' H', N σ' H' → ∃ m', m' < m ∧ W (i + 1) m' σ' H') ∧ ∀ x H', (Itl K a).yld i H x H' → g x σ H' fun σ2 H2 => tb { D with nx := N, ct := N, bk := D.nx } σ2 H2) := by
  refine ⟨fun i m σ H => m = xs.length - i ∧ i ≤ xs.length ∧ Pv i σ H, ⟨xs.length, by simp, Nat.zero_le _, h0⟩, ?_⟩
  rintro i m σ H ⟨rfl, hi, p⟩
  have q := hl i σ H hi p
  by_cases hlt : i < xs.length
  · refine .inr ⟨⟨xs, xs[i], q, by simp [hlt]⟩, Pv (i + 1), fun σ' H' p' => ⟨xs.length - (i + 1), by omega, rfl, hlt, p'⟩, fun x H' y => ?_⟩
    obtain ⟨e, y⟩ := y
    subst e
    exact hs i x σ _ (y xs q) p
  · have e : i = xs.length := by omega
    subst e
    exact .inl ⟨⟨xs, q, Nat.le_refl _⟩, hd σ H p⟩
theorem for_tup {K : PySem.W.Frag} {a : Addr} {xs : List V} {g : TG} {tb : TS} {D : Ends} {σ : St} {H : Hp} (Pv : Nat → St → Hp → Prop) (h0 : Pv 0 σ H) (hl : ∀ i σ H, i ≤ xs.length → Pv i σ H → SqT K H a xs)
    (hs : ∀ i x σ H, xs[i]? = some x → Pv i σ H → g x σ H fun σ2 H2 => tb { D with nx := Pv (i + 1), ct := Pv (i + 1), bk := D.nx } σ2 H2) (hd : ∀ σ H, Pv xs.length σ H → D.nx σ H) :
    ∃ W : Nat → Nat → St → Hp → Prop, (∃ m, W 0 m σ H) ∧ ∀ i m σ H, W i m σ H →
      ((Itt K a).stop i H ∧ D.nx σ H) ∨ ((Itt K a).go i H ∧ ∃ N : St → Hp → Prop, (∀ σ' H', N σ' H' → ∃ m', m' < m ∧ W (i + 1) m' σ' H') ∧ ∀ x H', (Itt K a).yld i H x H' → g x σ H' fun σ2 H2 => tb { D with nx := N, ct := N, bk := D.nx } σ2 H2) := by
  refine ⟨fun i m σ H => m = xs.length - i ∧ i ≤ xs.length ∧ Pv i σ H, ⟨xs.length, by simp, Nat.zero_le _, h0⟩, ?_⟩
  rintro i m σ H ⟨rfl, hi, p⟩
  have q := hl i σ H hi p
  by_cases hlt : i < xs.length
  · refine .inr ⟨⟨xs, xs[i], q, by simp [hlt]⟩, Pv (i + 1), fun σ' H' p' => ⟨xs.length - (i + 1), by omega, rfl, hlt, p'⟩, fun x H' y => ?_⟩
    obtain ⟨e, y⟩ := y
    subst e
    exact hs i x σ _ (y xs q) p
  · have e : i = xs.length := by omega
    subst e
    exact .inl ⟨⟨xs, q, Nat.le_refl _⟩, hd σ H p⟩
end L2
namespace L2
open PySem PySem.Spec PyProof.Rows
abbrev R2 := V → V → Hp → VK → Prop
def OpR (X : Cx) (f : Value → Value → Sem Value) (r : R2) : Prop :=
  ∀ (pins : List (Addr × Obj)) (s : Shared) (σ : St) (H : Hp) (x y : V) (v u : Value) (Q : VK), Inv X pins σ H s → RelV x v → RelV y u → r x y H Q →
    wpAny (model X.prog X.w) X.A (f v u) (EP X pins σ Q) X.xe s
def UnR (X : Cx) (f : Value → Sem Value) (r : V → Hp → VK → Prop) : Prop :=
  ∀ (pins : List (Addr × Obj)) (s : Shared) (σ : St) (H : Hp) (x : V) (v : Value) (Q : VK), Inv X pins σ H s → RelV x v → r x H Q →
    wpAny (model X.prog X.w) X.A (f v) (EP X pins σ Q) X.xe s
def CallR (X : Cx) (f : Value) (r : List V → Hp → VK → Prop) : Prop :=
  ∀ (pins : List (Addr × Obj)) (s : Shared) (σ : St) (H : Hp) (xs : List V) (us : List Value) (Q : VK), Inv X pins σ H s → Vals xs us → r xs H Q →
    wpAny (model X.prog X.w) X.A (call f us) (EP X pins σ Q) X.xe s
def TruR (X : Cx) (r : V → Hp → (Bool → Hp → Prop) → Prop) : Prop :=
  ∀ (pins : List (Addr × Obj)) (s : Shared) (σ : St) (H : Hp) (x : V) (v : Value) (Q : Bool → Hp → Prop), Inv X pins σ H s → RelV x v → r x H Q →
    wpAny (model X.prog X.w) X.A (truthy v) (TP X pins σ Q) X.xe s
def tOp (r : R2) (ta tb : TE) : TE := fun σ H Q => ta σ H fun x H1 => tb σ H1 fun y H2 => r x y H2 Q
def tUn (r : V → Hp → VK → Prop) (ta : TE) : TE := fun σ H Q => ta σ H fun x H1 => r x H1 Q
def rI (C : Int → Int → Prop) (g : Int → Int → V) : R2 := fun x y H Q => ∃ i j, x = .int i ∧ y = .int j ∧ C i j ∧ Q (g i j) H
def rI0 (g : Int → Int → V) : R2 := fun x y H Q => ∃ i j, x = .int i ∧ y = .int j ∧ Q (g i j) H
def rU (g : Int → V) : V → Hp → VK → Prop := fun x H Q => ∃ i, x = .int i ∧ Q (g i) H
section
variable {X : Cx} {a b c : Expr} {ta tb tc : TE} {pos : Pos}
theorem binT (ha : PE X a ta) (hb : PE X b tb) {pins : List (Addr × Obj)} {s : Shared} {σ : St} {H : Hp} {R : V → V → Hp → Prop} (I : Inv X pins σ H s)
    (h : ta σ H fun x H1 => tb σ H1 fun y H2 => R x y H2) {Q : Value → Shared → Prop} {f : Value → Value → Sem Value}
    (hf : ∀ v u s2 x y H2, Inv X pins σ H2 s2 → RelV x v → RelV y u → R x y H2 → wpAny (model X.prog X.w) X.A (f v u) Q X.xe s2) :
    wpAny (model X.prog X.w) X.A (eval a X.env) (fun v s₁ => wpAny (model X.prog X.w) X.A (eval b X.env) (fun u s₂ => wpAny (model X.prog X.w) X.A (f v u) Q X.xe s₂) X.xe s₁) X.xe s := by
  refine thn (ha pins s σ H _ I h) fun v s1 ⟨x, H1, I1, r1, q1⟩ => ?_
  refine thn (hb pins s1 σ H1 _ I1 q1) fun u s2 ⟨y, H2, I2, r2, q2⟩ => ?_
  exact hf v u s2 x y H2 I2 r1 r2 q2
theorem pe_op {op : Operator} {r : R2} (ho : OpR X (binaryOp op) r) (ha : PE X a ta) (hb : PE X b tb) : PE X (.BinOp a op b pos) (tOp r ta tb) := by
  intro pins s σ H Q I h
  exact wpAny_BinOp (binT ha hb I h fun v u s2 x y H2 I2 rx ry q => ho pins s2 σ H2 x y v u Q I2 rx ry q)
theorem pe_un {op : UnaryOp} {r : V → Hp → VK → Prop} (ho : UnR X (unaryOp op) r) (ha : PE X a ta) : PE X (.UnaryOp op a pos) (tUn r ta) := by
  intro pins s σ H Q I h
  exact UnaryOp_ (thn (ha pins s σ H _ I h) fun v s1 ⟨x, H1, I1, r1, q1⟩ => ho pins s1 σ H1 x v Q I1 r1 q1)
theorem opI {f : Value → Value → Sem Value} {C : Int → Int → Prop} {g : Int → Int → Int}
    (rule : ∀ (i j : Int) (t u : Tok) (s : Shared) (Q : Value → Shared → Prop) (E : Value → Shared → Prop), C i j → Q (.int (g i j) s.toks) { s with toks := s.toks + 1 } → wpAny (model X.prog X.w) X.A (f (.int i t) (.int j u)) Q E s) :
    OpR X f (rI C fun i j => .int (g i j)) := by
  intro pins s σ H x y v u Q I rx ry h
  obtain ⟨i, j, rfl, rfl, hc, q⟩ := h
  obtain ⟨t, rfl⟩ := rx
  obtain ⟨t', rfl⟩ := ry
  exact rule i j t t' s _ _ hc ⟨.int (g i j), H, I.tok _, ⟨_, rfl⟩, q⟩
theorem opI0 {f : Value → Value → Sem Value} {g : Int → Int → Int}
    (rule : ∀ (i j : Int) (t u : Tok) (s : Shared) (Q : Value → Shared → Prop) (E : Value → Shared → Prop), Q (.int (g i j) s.toks) { s with toks := s.toks + 1 } → wpAny (model X.prog X.w) X.A (f (.int i t) (.int j u)) Q E s) :
    OpR X f (rI0 fun i j => .int (g i j)) := by
  intro pins s σ H x y v u Q I rx ry h
  obtain ⟨i, j, rfl, rfl, q⟩ := h
  obtain ⟨t, rfl⟩ := rx
  obtain ⟨t', rfl⟩ := ry
  exact rule i j t t' s _ _ ⟨.int (g i j), H, I.tok _, ⟨_, rfl⟩, q⟩
theorem opB0 {f : Value → Value → Sem Value} {g : Int → Int → Bool}
    (rule : ∀ (i j : Int) (t u : Tok) (s : Shared) (Q : Value → Shared → Prop) (E : Value → Shared → Prop), Q (.bool (g i j)) s → wpAny (model X.prog X.w) X.A (f (.int i t) (.int j u)) Q E s) :
    OpR X f (rI0 fun i j => .bl (g i j)) := by
  intro pins s σ H x y v u Q I rx ry h
  obtain ⟨i, j, rfl, rfl, q⟩ := h
  obtain ⟨t, rfl⟩ := rx
  obtain ⟨t', rfl⟩ := ry
  exact rule i j t t' s _ _ ⟨.bl (g i j), H, I, rfl, q⟩
def CDiv (i j : Int) : Prop := 0 < j ∧ j < 1073741824
def CPow (i j : Int) : Prop := 0 ≤ j ∧ j ≤ 1000000 ∧ i.natAbs < 2 ^ 64
def CMul (i j : Int) : Prop := (-(2 ^ 64) < i ∧ i < 2 ^ 64) ∨ (-(2 ^ 64) < j ∧ j < 2 ^ 64)
theorem CMul.ok {i j : Int} (h : CMul i j) : IntMulOk i j := by
  rcases h with ⟨h1, h2⟩ | ⟨h1, h2⟩
  · exact .of_left (intBits_le_64 h1 h2)
  · exact .of_right (intBits_le_64 h1 h2)
theorem op_add : OpR X (binaryOp .Add) (rI0 fun i j => .int (i + j)) := opI0 fun _ _ _ _ _ _ _ q => add_int q
theorem op_sub : OpR X (binaryOp .Sub) (rI0 fun i j => .int (i - j)) := opI0 fun _ _ _ _ _ _ _ q => sub_int q
theorem op_mul : OpR X (binaryOp .Mult) (rI CMul fun i j => .int (i * j)) := opI fun _ _ _ _ _ _ _ hc q => mul_int q hc.ok
theorem op_fdiv : OpR X (binaryOp .FloorDiv) (rI CDiv fun i j => .int (i / j)) := opI fun i j _ _ _ _ _ hc q => by
  have h1 : (0 : Int) < j := hc.1
  have h2 : j < 1073741824 := hc.2
  exact floordiv_int (by omega) (by rw [Int.fdiv_eq_ediv_of_nonneg i (by omega)]; exact q) (.inl (PyProof.noPylong_small (by omega)))
theorem op_mod : OpR X (binaryOp .Mod) (rI (fun _ j => 0 < j) fun i j => .int (i % j)) := opI fun i j _ _ _ _ _ hc q => by
  have h1 : (0 : Int) < j := hc
  exact mod_int' (by omega) (by rw [Int.fmod_eq_emod_of_nonneg i (by omega)]; exact q)
theorem op_pow : OpR X (binaryOp .Pow) (rI CPow fun i j => .int (i ^ j.toNat)) := opI fun _ _ _ _ _ _ _ hc q => pow_int_small hc.1 hc.2.1 hc.2.2 q
theorem unI {f : Value → Sem Value} {g : Int → Int}
    (rule : ∀ (i : Int) (t : Tok) (s : Shared) (Q : Value → Shared → Prop) (E : Value → Shared → Prop), Q (.int (g i) s.toks) { s with toks := s.toks + 1 } → wpAny (model X.prog X.w) X.A (f (.int i t)) Q E s) :
    UnR X f (rU fun i => .int (g i)) := by
  intro pins s σ H x v Q I rx h
  obtain ⟨i, rfl, q⟩ := h
  obtain ⟨t, rfl⟩ := rx
  exact rule i t s _ _ ⟨.int (g i), H, I.tok _, ⟨_, rfl⟩, q⟩
theorem un_neg : UnR X (unaryOp .USub) (rU fun i => .int (-i)) := unI fun _ _ _ _ _ q => neg_int q
end
def scal : V → V → Bool
  | .non, .non => true | .non, .int _ => true | .int _, .non => true | .non, .bl _ => true | .bl _, .non => true | .non, .str _ => true | .str _, .non => true
  | .int _, .int _ => true | .bl _, .bl _ => true | .str _, .str _ => true | .byt _, .byt _ => true
  | .int _, .str _ => true | .str _, .int _ => true | .bl _, .str _ => true | .str _, .bl _ => true
  | _, _ => false
def rEq : R2 := fun x y H Q => scal x y = true ∧ Q (.bl (decide (x = y))) H
def rNe : R2 := fun x y H Q => scal x y = true ∧ Q (.bl (!decide (x = y))) H
theorem dec_int {i j : Int} : decide (V.int i = V.int j) = (i == j) := by
  rw [Bool.eq_iff_iff]
  simp
theorem dec_bl {i j : Bool} : decide (V.bl i = V.bl j) = (i == j) := by
  rw [Bool.eq_iff_iff]
  simp
theorem dec_str {i j : Str} : decide (V.str i = V.str j) = (i == j) := by
  rw [Bool.eq_iff_iff]
  simp
theorem dec_byt {i j : Array UInt8} : decide (V.byt i = V.byt j) = (i.toList == j.toList) := by
  rw [Bool.eq_iff_iff]
  cases i
  cases j
  simp
section
variable {X : Cx} {a b c : Expr} {ta tb tc : TE} {pos : Pos}
theorem fin_bl {pins : List (Addr × Obj)} {σ : St} {H : Hp} {s : Shared} {Q : VK} {k k' : Bool} (I : Inv X pins σ H s) (q : Q (.bl k) H) (e : k = k') : EP X pins σ Q (.bool k') s := by
  subst e
  exact ⟨.bl k, H, I, rfl, q⟩
theorem op_eq : OpR X (compareOp .Eq) rEq := by
  intro pins s σ H x y v u Q I rx ry h
  obtain ⟨hs, q⟩ := h
  cases x with
  | non =>
    cases rx
    cases y with
    | non => cases ry; exact PySem.EqNone.eq_none_none (fin_bl I q (by simp))
    | bl j => cases ry; exact PySem.EqNone.eq_none_bool (fin_bl I q (by simp))
    | int j => obtain ⟨t', rfl⟩ := ry; exact PySem.EqNone.eq_none_int (fin_bl I q (by simp))
    | str j => obtain ⟨t', rfl⟩ := ry; exact PySem.EqNone.eq_none_str (fin_bl I q (by simp))
    | _ => exact absurd (show false = true from hs) Bool.false_ne_true
  | bl i =>
    cases rx
    cases y with
    | non => cases ry; exact PySem.EqNone.eq_bool_none (fin_bl I q (by simp))
    | bl j => cases ry; exact eq_bool (fin_bl I q dec_bl)
    | str j => obtain ⟨t', rfl⟩ := ry; exact PySem.EqMixed.eq_bool_str (fin_bl I q (by simp))
    | _ => exact absurd (show false = true from hs) Bool.false_ne_true
  | int i =>
    obtain ⟨t, rfl⟩ := rx
    cases y with
    | non => cases ry; exact PySem.EqNone.eq_int_none (fin_bl I q (by simp))
    | int j => obtain ⟨t', rfl⟩ := ry; exact eq_int (fin_bl I q dec_int)
    | str j => obtain ⟨t', rfl⟩ := ry; exact PySem.EqMixed.eq_int_str (fin_bl I q (by simp))
    | _ => exact absurd (show false = true from hs) Bool.false_ne_true
  | str i =>
    obtain ⟨t, rfl⟩ := rx
    cases y with
    | non => cases ry; exact PySem.EqNone.eq_str_none (fin_bl I q (by simp))
    | bl j => cases ry; exact PySem.EqMixed.eq_str_bool (fin_bl I q (by simp))
    | int j => obtain ⟨t', rfl⟩ := ry; exact PySem.EqMixed.eq_str_int (fin_bl I q (by simp))
    | str j => obtain ⟨t', rfl⟩ := ry; exact eq_str (fin_bl I q dec_str)
    | _ => exact absurd (show false = true from hs) Bool.false_ne_true
  | byt i =>
    obtain ⟨t, rfl⟩ := rx
    cases y with
    | byt j => obtain ⟨t', rfl⟩ := ry; exact PySem.W.eq_bytes (fin_bl I q dec_byt)
    | _ => exact absurd (show false = true from hs) Bool.false_ne_true
  | _ => cases y <;> exact absurd (show false = true from hs) Bool.false_ne_true
theorem op_ne : OpR X (compareOp .NotEq) rNe := by
  intro pins s σ H x y v u Q I rx ry h
  obtain ⟨hs, q⟩ := h
  cases x with
  | non =>
    cases rx
    cases y with
    | non => cases ry; exact PySem.EqNone.ne_none_none (fin_bl I q (by simp))
    | bl j => cases ry; exact PySem.EqNone.ne_none_bool (fin_bl I q (by simp))
    | int j => obtain ⟨t', rfl⟩ := ry; exact PySem.EqNone.ne_none_int (fin_bl I q (by simp))
    | str j => obtain ⟨t', rfl⟩ := ry; exact PySem.EqNone.ne_none_str (fin_bl I q (by simp))
    | _ => exact absurd (show false = true from hs) Bool.false_ne_true
  | bl i =>
    cases rx
    cases y with
    | non => cases ry; exact PySem.EqNone.ne_bool_none (fin_bl I q (by simp))
    | bl j => cases ry; exact ne_bool (fin_bl I q (congrArg not dec_bl))
    | str j => obtain ⟨t', rfl⟩ := ry; exact PySem.EqMixed.ne_bool_str (fin_bl I q (by simp))
    | _ => exact absurd (show false = true from hs) Bool.false_ne_true
  | int i =>
    obtain ⟨t, rfl⟩ := rx
    cases y with
    | non => cases ry; exact PySem.EqNone.ne_int_none (fin_bl I q (by simp))
    | int j => obtain ⟨t', rfl⟩ := ry; exact ne_int (fin_bl I q (congrArg not dec_int))
    | str j => obtain ⟨t', rfl⟩ := ry; exact PySem.EqMixed.ne_int_str (fin_bl I q (by simp))
    | _ => exact absurd (show false = true from hs) Bool.false_ne_true
  | str i =>
    obtain ⟨t, rfl⟩ := rx
    cases y with
    | non => cases ry; exact PySem.EqNone.ne_str_none (fin_bl I q (by simp))
    | bl j => cases ry; exact PySem.EqMixed.ne_str_bool (fin_bl I q (by simp))
    | int j => obtain ⟨t', rfl⟩ := ry; exact PySem.EqMixed.ne_str_int (fin_bl I q (by simp))
    | str j => obtain ⟨t', rfl⟩ := ry; exact ne_str (fin_bl I q (congrArg not dec_str))
    | _ => exact absurd (show false = true from hs) Bool.false_ne_true
  | byt i =>
    obtain ⟨t, rfl⟩ := rx
    cases y with
    | byt j => obtain ⟨t', rfl⟩ := ry; exact PySem.W.ne_bytes (fin_bl I q (congrArg not dec_byt))
    | _ => exact absurd (show false = true from hs) Bool.false_ne_true
  | _ => cases y <;> exact absurd (show false = true from hs) Bool.false_ne_true
theorem op_lt : OpR X (compareOp .Lt) (rI0 fun i j => .bl (decide (i < j))) := opB0 fun _ _ _ _ _ _ _ q => lt_int q
theorem op_le : OpR X (compareOp .LtE) (rI0 fun i j => .bl (decide (i ≤ j))) := opB0 fun _ _ _ _ _ _ _ q => le_int q
theorem op_gt : OpR X (compareOp .Gt) (rI0 fun i j => .bl (decide (j < i))) := opB0 fun _ _ _ _ _ _ _ q => gt_int q
theorem op_ge : OpR X (compareOp .GtE) (rI0 fun i j => .bl (decide (j ≤ i))) := opB0 fun _ _ _ _ _ _ _ q => ge_int q
theorem op_isN : OpR X (compareOp .Is) (fun x y H Q => y = .non ∧ Q (.bl (decide (x = .non))) H) := by
  intro pins s σ H x y v u Q I rx ry h
  obtain ⟨rfl, q⟩ := h
  cases ry
  refine is_none_gen (fin_bl I q ?_)
  cases x <;> first
    | (cases rx; rfl)
    | (obtain ⟨t, rfl⟩ := rx; rfl)
theorem nomark (b : Expr) {op : CmpOp} (h : op ≠ .In := by decide) (h2 : op ≠ .NotIn := by decide) : behindInMarks op b = false := by
  have e1 : (op == CmpOp.In) = false := by cases op <;> first | rfl | exact absurd rfl h
  have e2 : (op == CmpOp.NotIn) = false := by cases op <;> first | rfl | exact absurd rfl h2
  cases b <;> simp [behindInMarks, e1, e2]
theorem pe_cmpR {op : CmpOp} {r : R2} (ho : OpR X (compareOp op) r) (ha : PE X a ta) (hb : PE X b tb) (hm : behindInMarks op b = false) : PE X (.Compare a [op] [b] pos) (tOp r ta tb) := by
  intro pins s σ H Q I h
  exact wpAny_Compare1 (binT ha hb I h fun v u s2 x y H2 I2 rx ry q => ho pins s2 σ H2 x y v u Q I2 rx ry q) hm
def tTest (t : TE) : TT := fun σ H Q => t σ H fun x H' => ∃ k, x = .bl k ∧ Q k H'
theorem pt_cmpR {op : CmpOp} {r : R2} (ho : OpR X (compareOp op) r) (ha : PE X a ta) (hb : PE X b tb) (hm : behindInMarks op b = false) : PT X (.Compare a [op] [b] pos) (tTest (tOp r ta tb)) := by
  intro pins s σ H Q I h
  refine wpAny_isTrue_Compare1 (thn (ha pins s σ H _ I h) fun v s1 ⟨x, H1, I1, r1, q1⟩ => thn (hb pins s1 σ H1 _ I1 q1) fun u s2 ⟨y, H2, I2, r2, q2⟩ =>
    thn (ho pins s2 σ H2 x y v u _ I2 r1 r2 q2) fun c s3 ⟨z, H3, I3, r3, k, e, q3⟩ => ?_) hm
  subst e
  cases r3
  exact wpAny_truthy_bool ⟨H3, I3, q3⟩
def tChain (r r' : R2) (ta tb tc : TE) : TE := fun σ H Q => ta σ H fun x H1 => tb σ H1 fun y H2 => r x y H2 fun z H3 => ∃ k, z = .bl k ∧
  (if k = true then tc σ H3 fun w' H4 => r' y w' H4 Q else Q (.bl false) H3)
theorem pe_chain {op op' : CmpOp} {r r' : R2} (ho : OpR X (compareOp op) r) (ho' : OpR X (compareOp op') r') (ha : PE X a ta) (hb : PE X b tb) (hc : PE X c tc)
    (hm : lastMarks [op, op'] [b, c] = false := by with_unfolding_all rfl) : PE X (.Compare a [op, op'] [b, c] pos) (tChain r r' ta tb tc) := by
  intro pins s σ H Q I h
  refine Compare_chain (thn (ha pins s σ H _ I h) fun v s1 ⟨x, H1, I1, r1, q1⟩ => chain_link (thn (hb pins s1 σ H1 _ I1 q1) fun u s2 ⟨y, H2, I2, r2, q2⟩ =>
    thn (ho pins s2 σ H2 x y v u _ I2 r1 r2 q2) fun d s3 ⟨z, H3, I3, r3, k, e, q3⟩ => ?_)) hm
  subst e
  cases r3
  refine wpAny_truthy_bool ?_
  cases k with
  | false => exact ite_ff ⟨.bl false, H3, I3, rfl, q3⟩
  | true => exact ite_tt (chain_last (thn (hc pins s3 σ H3 _ I3 q3) fun w' s4 ⟨z', H4, I4, r4, q4⟩ => ho' pins s4 σ H4 y z' u w' Q I4 r2 r4 q4))
def TruV (K : PySem.W.Frag) (x : V) (H : Hp) (k : Bool) : Prop :=
  match x with
  | .non => k = false
  | .bl b => k = b
  | .int i => k = (i != 0)
  | .str y => y.length ≤ sizeLine ∧ k = ((y.length : Int) != 0)
  | .byt y => y.size ≤ sizeLine ∧ k = ((y.size : Int) != 0)
  | .ref p => (∃ xs, SqL K H p xs ∧ k = !xs.isEmpty) ∨ (∃ xs, SqT K H p xs ∧ k = !xs.isEmpty) ∨ ∃ kvs, H p = some (.dK kvs) ∧ k = !kvs.isEmpty
  | _ => False
theorem isEmpty_kv {κ : Type} {kvs : List (κ × V)} {vs : List (κ × Value)} (r : KV kvs vs) : (!vs.isEmpty) = !kvs.isEmpty := by
  cases r <;> rfl
theorem isEmpty_of {xs : List V} {its : List Value} (r : Vals xs its) : (!its.toArray.isEmpty) = !xs.isEmpty := by
  cases r <;> simp
theorem line63 : (sizeLine : Nat) < 2 ^ 63 := by rw [sizeLine_eq]; decide
theorem tru_ok : TruR X (fun x H Q => ∃ k, TruV X.K x H k ∧ Q k H) := by
  intro pins s σ H x v Q I rx h
  obtain ⟨k, e, q⟩ := h
  have hl := line63
  have hs : sizeLine = 16777216 := sizeLine_eq
  cases x with
  | non =>
    cases rx
    have e' : k = false := e
    subst e'
    exact truthy_none ⟨H, I, q⟩
  | bl b =>
    cases rx
    have e' : k = b := e
    subst e'
    exact wpAny_truthy_bool ⟨H, I, q⟩
  | int i =>
    obtain ⟨t, rfl⟩ := rx
    have e' : k = (i != 0) := e
    subst e'
    exact PySem.P.truthy_int ⟨H, I, q⟩
  | str y =>
    obtain ⟨t, rfl⟩ := rx
    obtain ⟨hy, e'⟩ : y.length ≤ sizeLine ∧ k = ((y.length : Int) != 0) := e
    subst e'
    exact PySem.P.truthy_str (by omega) ⟨H, I.tok _, q⟩
  | byt y =>
    obtain ⟨t, rfl⟩ := rx
    obtain ⟨hy, e'⟩ : y.size ≤ sizeLine ∧ k = ((y.size : Int) != 0) := e
    subst e'
    exact PySem.W.truthy_bytes (by omega) ⟨H, I.tok _, q⟩
  | ref p =>
    cases rx
    have e' : (∃ xs, SqL X.K H p xs ∧ k = !xs.isEmpty) ∨ (∃ xs, SqT X.K H p xs ∧ k = !xs.isEmpty) ∨ ∃ kvs, H p = some (.dK kvs) ∧ k = !kvs.isEmpty := e
    rcases e' with ⟨xs, hx, e'⟩ | ⟨xs, hx, e'⟩ | ⟨kvs, hx, e'⟩
    · subst e'
      obtain ⟨its, r, pl, hz⟩ := I.list hx
      have hlen := r.length
      exact wpAny_truthy_list pl.isList (by simp only [List.size_toArray]; omega) ⟨H, I.tok _, by rw [isEmpty_of r]; exact q⟩
    · subst e'
      obtain ⟨its, r, pl, hz⟩ := I.tuple hx
      have hlen := r.length
      exact truthy_tuple pl (by simp only [List.size_toArray]; omega) ⟨H, I.tok _, by rw [isEmpty_of r]; exact q⟩
    · subst e'
      obtain ⟨hz, hS, vs, r, m⟩ : kvs.length ≤ sizeLine ∧ (p == sysModules) = false ∧ ∃ vs, KV kvs vs ∧ s.heap.DictOf (mixKind X.prog X.w) p vs := I.hok p _ hx
      have hlen : kvs.length = vs.length := Paired.length r
      exact wpAny_truthy_dict hS m (by omega) ⟨H, I.tok _, by rw [isEmpty_kv r]; exact q⟩
  | _ => exact (show False from e).elim
theorem pt_truth (ha : PE X a ta) (he : ∀ whole, isTrue a X.env whole = (do let v ← whole; standAt a.pos; holding [v] (truthy v))) :
    PT X a (fun σ H Q => ta σ H fun x H' => ∃ k, TruV X.K x H' k ∧ Q k H') := by
  intro pins s σ H Q I h
  exact isTrue_plain (thn (ha pins s σ H _ I h) fun v s1 ⟨x, H1, I1, r1, q1⟩ => tru_ok pins s1 σ H1 x v Q I1 r1 q1) (he _)
theorem vals1 {x : V} {us : List Value} (r : Vals [x] us) : ∃ u, us = [u] ∧ RelV x u := by
  cases r with
  | cons r1 r2 => cases r2; exact ⟨_, rfl, r1⟩
theorem vals2 {x y : V} {us : List Value} (r : Vals [x, y] us) : ∃ u w', us = [u, w'] ∧ RelV x u ∧ RelV y w' := by
  cases r with
  | cons r1 r2 =>
    cases r2 with
    | cons r3 r4 => cases r4; exact ⟨_, _, rfl, r1, r3⟩
end
end L2
namespace L2
open PySem PySem.Spec PyProof.Rows
structure ObjM (h : Heap) (x dx C : Addr) (mA : Str → Option Value) : Prop where
  obj : h.get? x = some (PySem.W.instObj C dx)
  ns : h.Ns1 dx mA
  ne : dx ≠ x
theorem lookIn_ns {h : Heap} {dx : Addr} {mA : Str → Option Value} (n : h.Ns1 dx mA) : ∃ od, h.get? dx = some od ∧ ∀ name, PySem.W.lookIn name od = some (mA name) := by
  obtain ⟨o, es, ep, ho, hd, hk, _, hm⟩ := n
  refine ⟨o, ho, fun name => ?_⟩
  have e := hm name
  unfold nsFind findBy at e
  rw [← Array.find?_toList] at e
  unfold PySem.W.lookIn
  rw [hd]
  dsimp only
  split
  · rename_i y q
    rw [q] at e
    exact congrArg some e
  · rename_i q
    rw [q] at e
    have a : es.toList.any (·.refKey) = false := by
      rw [List.any_eq_false]
      intro y hy
      obtain ⟨z, t, hkey⟩ := hk y (Array.mem_toList_iff.mp hy)
      simp [DictEntry.refKey, hkey]
    have a' : ¬ es.toList.any (·.refKey) = true := by rw [a]; exact Bool.false_ne_true
    rw [if_neg a']
    exact congrArg some e
theorem ObjM.look {h : Heap} {x dx C : Addr} {mA : Str → Option Value} (I : ObjM h x dx C mA) : ∃ od, PySem.W.InstAt h x (PySem.W.instObj C dx) C (some od) ∧ ∀ name, PySem.W.lookIn name od = some (mA name) :=
  let ⟨od, ho, hl⟩ := lookIn_ns I.ns
  ⟨od, ⟨I.obj, rfl, rfl, ho⟩, hl⟩
section
variable {prog : Program} {w : World} {A : Around} {E : Value → Shared → Prop} {s : Shared} {K : PySem.W.Frag} {x dx C f : Addr} {mA : Str → Option Value} {name : Str} {v : Value}
theorem get_map {expr : Bool} {Q : Value → Shared → Prop} (X : K.In s.heap) (I : ObjM s.heap x dx C mA) (hg : PySem.W.plainGet K C name = true) (hh : PySem.W.hasDictIn K C = true)
    (ha : PySem.W.findIn K (.ref C) name = some none) (hv : mA name = some v) (hv' : PySem.W.handedIn v = true) (h : Q v { s with toks := s.toks + 1 }) :
    wpAny (model prog w) A (getAttr (.ref x) name expr) Q E s := by
  obtain ⟨od, J, hl⟩ := I.look
  exact PySem.W.get_value X J (PySem.W.plainGet_of hg).1 (PySem.W.findObj_own hh ha rfl (by rw [hl, hv])) hv' h
theorem get_meth {pl : Sem Bool} {Q : Value × List Value → Shared → Prop} (X : K.In s.heap) (I : ObjM s.heap x dx C mA) (hg : PySem.W.plainGet K C name = true)
    (hf : PySem.W.findIn K (.ref C) name = some (some (.ref f))) (ht : PySem.W.isFn K (.ref f) = true) (hv : mA name = none) (h : Q (.ref f, [.ref x]) s) :
    wpAny (model prog w) A (getMethod (.ref x) name pl) Q E s := by
  obtain ⟨od, J, hl⟩ := I.look
  exact PySem.W.method_fn X J (PySem.W.plainGet_of hg).1 (PySem.W.plainGet_of hg).2 hf (beq_iff_eq.mp ht) (by show (PySem.W.lookIn name od).map (·.isSome) = some false; rw [hl, hv]; rfl) h
theorem set_map {ns : List Str} {Q : Unit → Shared → Prop} (X : K.In s.heap) (I : ObjM s.heap x dx C mA)
    (hs : PySem.W.findIn K (.ref C) "__setattr__" = some (some (.builtin "object.__setattr__"))) (hp : PySem.W.plainOver K C = true) (ht : PySem.W.takerIn K C name = some none) (hh : PySem.W.hasDictIn K C = true)
    (hw : PySem.Within mA ns) (hsz : ns.length ≤ sizeLine)
    (h : ∀ h', ObjM h' x dx C (fun y => if y = name then some v else mA y) → Heap.SameBut dx s.heap h' → Q () { s with heap := h', toks := s.toks + 2 }) :
    wpAny (model prog w) A (setAttr (.ref x) name v) Q E s := by
  obtain ⟨od, J, hl⟩ := I.look
  refine PySem.W.set_plain X J hs (PySem.W.osa_open (s := { s with toks := s.toks + 1 }) (r := none) X J hp ht fun b => ?_)
  obtain ⟨cd, hc, hd'⟩ := PySem.W.any_some hh
  have hx : s.heap.get? x = some ⟨.ref C, some dx, .plain, #[]⟩ := I.obj
  refine wpAny_bind (wpAny_pure (wpAny_bind (wpAny_bind (wpAny_loadPart hx (wpAny_bind (PySem.W.Looks.here (s := { s with toks := s.toks + 1 }) (PySem.W.looks_clsIn X hc) ?_))))))
  rw [hd']
  refine wpAny_pure (a := some dx) (wpAny_bind (wpAny_pure (wpAny_bind ?_)))
  refine wpAny_nsSet1 (s := { s with toks := s.toks + 1 }) I.ns fun h' hn2 hs2 => ?_
  obtain ⟨oD, esD, epD, hoD, hdD, hcD⟩ := hn2.count (PySem.Within.cons name v hw)
  refine wpAny_bind (wpAny_lookBehind hoD (by rw [hdD]; exact pastItsLine_dict (Nat.le_trans hcD (by rw [List.length_cons]; omega))) ?_)
  exact wpAny_pure (h _ ⟨(hs2.2 _ (Ne.symm I.ne)).trans I.obj, hn2, I.ne⟩ hs2)
theorem make_map {R : Result → Shared → Prop} {vs : List Value} {kw : List (Str × Value)} (X : K.In s.heap) (hm : PySem.W.makesIn K C = true)
    (hi : PySem.W.findIn K (.ref C) "__init__" = some (some (.ref f))) (hf : PySem.W.typeIn K (.ref f) = some (.type "function"))
    (h : codeAny (model prog w) (A.under (.builtin "type.__call__" ⟨.ref C :: vs, kw⟩)) (.call (.ref f) ⟨.ref (s.heap.objs.size + 1) :: vs, kw⟩) (PySem.W.InitBack (s.heap.objs.size + 1) R)
      { s with heap := (s.heap.push PySem.W.emptyDict).push (PySem.W.instObj C s.heap.objs.size) }) :
    codeAny (model prog w) A (.call (.ref C) ⟨vs, kw⟩) R s := by
  obtain ⟨hh, g, d, t, os⟩ := s
  exact PySem.W.make_core (PySem.W.makes_of X hm) (PySem.W.looks_findIn X hi) (fun self => PySem.W.bind_fn X self hf) (.inl rfl) h
end
def putF (f : Str) (v : V) : List (Str × V) → List (Str × V)
  | [] => [(f, v)]
  | (g, x) :: r => if g = f then (g, v) :: r else (g, x) :: putF f v r
theorem lookup_putF (f g : Str) (v : V) : ∀ fs : List (Str × V), (putF f v fs).lookup g = if g = f then some v else fs.lookup g
  | [] => by
    show List.lookup g [(f, v)] = _
    by_cases h : g = f
    · have hb : (g == f) = true := beq_iff_eq.mpr h
      simp only [List.lookup, hb, if_pos h]
    · have hb : (g == f) = false := beq_eq_false_iff_ne.mpr h
      simp only [List.lookup, hb, if_neg h]
  | (k, x) :: r => by
    have ih := lookup_putF f g v r
    rw [show putF f v ((k, x) :: r) = (if k = f then (k, v) :: r else (k, x) :: putF f v r) from rfl]
    by_cases hk : k = f
    · rw [if_pos hk]
      by_cases h : g = k
      · have hb : (g == k) = true := beq_iff_eq.mpr h
        simp only [List.lookup, hb, if_pos (h.trans hk)]
      · have hb : (g == k) = false := beq_eq_false_iff_ne.mpr h
        simp only [List.lookup, hb, if_neg (fun e : g = f => h (e.trans hk.symm))]
    · rw [if_neg hk]
      by_cases h : g = k
      · have hb : (g == k) = true := beq_iff_eq.mpr h
        simp only [List.lookup, hb, if_neg (fun e : g = f => hk (h.symm.trans e))]
      · have hb : (g == k) = false := beq_eq_false_iff_ne.mpr h
        simp only [List.lookup, hb]
        exact ih
theorem keys_putF (f : Str) (v : V) : ∀ fs : List (Str × V), f ∈ (putF f v fs).map (·.1) ∧ ∀ g, g ∈ fs.map (·.1) → g ∈ (putF f v fs).map (·.1)
  | [] => ⟨by simp [putF], fun g h => by simp at h⟩
  | (k, x) :: r => by
    obtain ⟨i1, i2⟩ := keys_putF f v r
    rw [show putF f v ((k, x) :: r) = (if k = f then (k, v) :: r else (k, x) :: putF f v r) from rfl]
    by_cases hk : k = f
    · rw [if_pos hk]
      subst hk
      exact ⟨by simp, fun g h => by simpa using h⟩
    · rw [if_neg hk]
      refine ⟨?_, fun g h => ?_⟩
      · rw [List.map_cons]
        exact List.mem_cons_of_mem _ i1
      · rw [List.map_cons] at h ⊢
        rcases List.mem_cons.mp h with e | e
        · exact List.mem_cons.mpr (.inl e)
        · exact List.mem_cons_of_mem _ (i2 g e)
theorem length_putF (f : Str) (v : V) : ∀ fs : List (Str × V), (putF f v fs).length ≤ fs.length + 1
  | [] => by simp [putF]
  | (k, x) :: r => by
    have ih := length_putF f v r
    rw [show putF f v ((k, x) :: r) = (if k = f then (k, v) :: r else (k, x) :: putF f v r) from rfl]
    by_cases hk : k = f
    · rw [if_pos hk, List.length_cons, List.length_cons]; omega
    · rw [if_neg hk, List.length_cons, List.length_cons]; omega
theorem RelO.some_of {v : V} {o : Option Value} (r : RelO (some v) o) : ∃ u, o = some u ∧ RelV v u := by
  cases o with
  | none => exact (show False from r).elim
  | some u => exact ⟨u, rfl, r⟩
theorem RelO.none_of {o : Option Value} (r : RelO none o) : o = none := by
  cases o with
  | none => rfl
  | some u => exact (show False from r).elim
theorem handed_of {v : V} {u : Value} (r : RelV v u) : PySem.W.handedIn u = true := by
  cases v with
  | non => cases (show u = Value.none from r); rfl
  | bl b => cases (show u = Value.bool b from r); rfl
  | int i => obtain ⟨t, e⟩ := (show ∃ t, u = Value.int i t from r); cases e; rfl
  | str x => obtain ⟨t, e⟩ := (show ∃ t, u = Value.str x t from r); cases e; rfl
  | byt b => obtain ⟨t, e⟩ := (show ∃ t, u = Value.bytes b t from r); cases e; rfl
  | flt b => obtain ⟨t, e⟩ := (show ∃ t, u = Value.float b t from r); cases e; rfl
  | ref a => cases (show u = Value.ref a from r); rfl
  | ty n => cases (show u = Value.type n from r); rfl
section
variable {P : Program} {w : World} {H H' : Hp} {h h' : Heap} {a C dx : Addr} {fs fs' : List (Str × V)}
theorem ins_get (hok : HOk P w H h) (e : H a = some (.ins C dx fs)) : ∃ mA, ObjM h a dx C mA ∧ (∀ f, RelO (fs.lookup f) (mA f)) ∧ PySem.Within mA (fs.map (·.1)) ∧ fs.length ≤ 1000 ∧ H dx = some (.own a) := by
  obtain ⟨d, z, ne, ob, mA, n, r, q⟩ := (show ObjOk P w H h a (.ins C dx fs) from hok a _ e)
  exact ⟨mA, ⟨ob, n, ne⟩, r, q, z, d⟩
end
structure Cls (K : PySem.W.Frag) (C : Addr) : Prop where
  pg : PySem.W.plainGet K C Str.empty = true
  hd : PySem.W.hasDictIn K C = true
  po : PySem.W.plainOver K C = true
  sa : PySem.W.findIn K (.ref C) "__setattr__" = some (some (.builtin "object.__setattr__"))
theorem Cls.get {K : PySem.W.Frag} {C : Addr} (c : Cls K C) (f : Str) : PySem.W.plainGet K C f = true := c.pg
def NoAttr (K : PySem.W.Frag) (C : Addr) (f : Str) : Prop := PySem.W.findIn K (.ref C) f = some none
theorem NoAttr.taker {K : PySem.W.Frag} {C : Addr} {f : Str} (n : NoAttr K C f) : PySem.W.takerIn K C f = some none := by
  unfold PySem.W.takerIn
  rw [show PySem.W.findIn K (.ref C) f = some none from n]
  rfl
structure Meth (K : PySem.W.Frag) (C : Addr) (m : Str) (f : Addr) : Prop where
  at_ : PySem.W.findIn K (.ref C) m = some (some (.ref f))
  fn : PySem.W.isFn K (.ref f) = true
  kp : PySem.W.keepIn K (.ref f) = true
section
variable {X : Cx} {pins : List (Addr × Obj)} {σ : St} {H : Hp} {s : Shared} {a C dx : Addr} {fs : List (Str × V)} {f : Str} {v : V} {A : Around} {E : Value → Shared → Prop}
theorem getattr_ok {b : Bool} {Q : Value → Shared → Prop} (I : Inv X pins σ H s) (e : H a = some (.ins C dx fs)) (c : Cls X.K C) (n : NoAttr X.K C f) (l : fs.lookup f = some v)
    (h : ∀ u s', Inv X pins σ H s' → RelV v u → Q u s') : wpAny (model X.prog X.w) A (getAttr (.ref a) f b) Q E s := by
  obtain ⟨mA, O, r, _, _, _⟩ := ins_get I.hok e
  obtain ⟨u, hu, ru⟩ := RelO.some_of (v := v) (o := mA f) (by rw [← l]; exact r f)
  exact get_map I.kIn O (c.get f) c.hd n hu (handed_of ru) (h u _ (I.tok _) ru)
theorem getmeth_ok {m : Str} {g : Addr} {pl : Sem Bool} {Q : Value × List Value → Shared → Prop} (I : Inv X pins σ H s) (e : H a = some (.ins C dx fs)) (c : Cls X.K C) (k : Meth X.K C m g) (l : fs.lookup m = none)
    (h : Q (.ref g, [.ref a]) s) : wpAny (model X.prog X.w) A (getMethod (.ref a) m pl) Q E s := by
  obtain ⟨mA, O, r, _, _, _⟩ := ins_get I.hok e
  have hn : mA m = none := RelO.none_of (by rw [← l]; exact r m)
  exact get_meth I.kIn O (c.get m) k.at_ k.fn hn h
theorem setattr_ok {y : V} {u : Value} {Q : Unit → Shared → Prop} (I : Inv X pins σ H s) (e : H a = some (.ins C dx fs)) (c : Cls X.K C) (n : NoAttr X.K C f) (hl : fs.length < 1000) (ry : RelV y u)
    (h : ∀ s', Inv X pins σ (upd H a (.ins C dx (putF f y fs))) s' → Q () s') : wpAny (model X.prog X.w) A (setAttr (.ref a) f u) Q E s := by
  obtain ⟨mA, O, r, wi, _, ho⟩ := ins_get I.hok e
  have hz : (fs.map (·.1)).length ≤ sizeLine := by rw [List.length_map, sizeLine_eq]; omega
  refine set_map I.kIn O c.sa c.po n.taker c.hd wi hz fun h' O' sb => h _ ?_
  have hd : ∃ o, h'.get? dx = some o := let ⟨o, _, _, e', _⟩ := O'.ns; ⟨o, e'⟩
  refine I.write (x := a) (e := dx) (by rw [e]; exact True.intro) (.inr ho) (fun b q hb z => (sb.2 b hb).trans z) hd ?_
  refine ⟨by rw [upd_ne O.ne]; exact ho, ?_, O.ne, O'.obj, _, O'.ns, fun g => ?_, fun g hg => ?_⟩
  · have := length_putF f y fs; omega
  · show RelO ((putF f y fs).lookup g) (if g = f then some u else mA g)
    rw [lookup_putF]
    by_cases q : g = f
    · rw [if_pos q, if_pos q]; exact ry
    · rw [if_neg q, if_neg q]; exact r g
  · by_cases q : g = f
    · rw [q]; exact (keys_putF f y fs).1
    · refine (keys_putF f y fs).2 g (wi g fun z => hg ?_)
      show (if g = f then some u else mA g) = none
      rw [if_neg q]; exact z
theorem Inv.made (I : Inv X pins σ H s) : Inv X pins σ (upd (upd H s.heap.objs.size (.own (s.heap.objs.size + 1))) (s.heap.objs.size + 1) (.ins C s.heap.objs.size []))
    { s with heap := (s.heap.push PySem.W.emptyDict).push (PySem.W.instObj C s.heap.objs.size) } := by
  have e1 : (s.heap.push PySem.W.emptyDict).get? s.heap.objs.size = some PySem.W.emptyDict := Heap.get?_push_size s.heap rfl
  have e2 : ((s.heap.push PySem.W.emptyDict).push (PySem.W.instObj C s.heap.objs.size)).get? (s.heap.objs.size + 1) = some (PySem.W.instObj C s.heap.objs.size) := by
    have := Heap.get?_push_size (s.heap.push PySem.W.emptyDict) (o := PySem.W.instObj C s.heap.objs.size) rfl
    rwa [Heap.size_push] at this
  have e3 : (s.heap.push PySem.W.emptyDict).Ns s.heap.objs.size (fun _ => none) := ⟨PySem.W.emptyDict, #[], _, e1, rfl, (fun e he => absurd he (by simp)), fun _ => rfl⟩
  have I1 := I.laid (a := s.heap.objs.size) (o := .own (s.heap.objs.size + 1)) (h' := s.heap.push PySem.W.emptyDict) (t' := s.toks) (fun b u q => Heap.get?_push_of_some _ q) (Nat.le_refl _) ⟨_, e1⟩
  refine I1.laid (a := s.heap.objs.size + 1) (o := .ins C s.heap.objs.size []) (t' := s.toks) (fun b u q => Heap.get?_push_of_some _ q) (Nat.le_of_eq (Heap.size_push _ _)) ?_
  have ne : s.heap.objs.size ≠ s.heap.objs.size + 1 := Nat.ne_of_lt (Nat.lt_succ_self _)
  refine ⟨by rw [upd_ne ne, upd_same], Nat.zero_le _, ne, e2, fun _ => none, (Heap.Ns1.of_empty e3).at fun o q => Heap.get?_push_of_some _ q, fun _ => True.intro, fun y hy => absurd rfl hy⟩
theorem attr_of {prog : Program} {w : World} {env : Env} {e : Expr} {f : Str} {pos : Pos} {s : Shared} {Q : Value → Shared → Prop} (hb : attributeBase e f env (eval e env) = eval e env)
    (h : wpAny (model prog w) A (eval e env) (fun o s₁ => wpAny (model prog w) A (getAttr o f true) Q E s₁) E s) : wpAny (model prog w) A (eval (.Attribute e f pos) env) Q E s :=
  Attribute_any_ h (by rw [arm_eval_Attribute, hb])
end
def tFld (K : PySem.W.Frag) (ta : TE) (f : Str) : TE := fun σ H Q => ta σ H fun x H1 => ∃ a C dx fs v, x = .ref a ∧ H1 a = some (.ins C dx fs) ∧ Cls K C ∧ NoAttr K C f ∧ fs.lookup f = some v ∧ Q v H1
def sFld (K : PySem.W.Frag) (ta tv : TE) (f : Str) : TS := fun D σ H => tv σ H fun y H1 => ta σ H1 fun x H2 => ∃ a C dx fs, x = .ref a ∧ H2 a = some (.ins C dx fs) ∧ Cls K C ∧ NoAttr K C f ∧ fs.length < 1000 ∧
  D.nx σ (upd H2 a (.ins C dx (putF f y fs)))
section
variable {X : Cx} {o e value : Expr} {f : Str} {pos pos' tpos : Pos} {ta tv : TE}
theorem pe_fld (he : PE X e ta) (hb : attributeBase e f X.env (eval e X.env) = eval e X.env) : PE X (.Attribute e f pos) (tFld X.K ta f) := by
  intro pins s σ H Q I h
  refine attr_of hb (thn (he pins s σ H _ I h) fun u s1 ⟨x, H1, I1, rx, a, C, dx, fs, v, ex, ea, c, n, l, q⟩ => ?_)
  subst ex
  obtain rfl : u = Value.ref a := rx
  exact getattr_ok I1 ea c n l fun u' s2 I2 ru => ⟨v, H1, I2, ru, q⟩
theorem ps_fld (ha : PE X o ta) (hv : PE X value tv) (hs : swapsWith value (some (.Attribute o f pos')) pos.line X.env = pure false) : PS X (.Assign [.Attribute o f pos'] value pos) (sFld X.K ta tv f) := by
  intro pins s σ H D I h
  refine plainObj_wpAny_Assign_Attribute (thn (hv pins s σ H _ I h) fun u s1 ⟨y, H1, I1, ry, q⟩ => thn (ha pins s1 σ H1 _ I1 q) fun ov s2 ⟨x, H2, I2, rx, a, C, dx, fs, ex, ea, c, n, l, q2⟩ => ?_) hs
  subst ex
  obtain rfl : ov = Value.ref a := rx
  exact setattr_ok I2 ea c n l ry fun s3 I3 => ⟨σ, _, I3, q2⟩
theorem methcall_of {pl : Sem Bool} {m : Str} {apos : Pos} {args : List Expr} {pins : List (Addr × Obj)} {s : Shared} {σ : St} {H : Hp} {Q : Value → Shared → Prop} {te : TE} (he : PE X e te) (I : Inv X pins σ H s)
    (h : te σ H fun x H1 => ∃ a C dx fs g, x = .ref a ∧ H1 a = some (.ins C dx fs) ∧ Cls X.K C ∧ Meth X.K C m g ∧ fs.lookup m = none ∧
      ∀ s1, Inv X pins σ H1 s1 → wpAny (model X.prog X.w) X.A (callWith pos (.ref g) [.ref a] (backTo pos (starEach args X.env)) (backToKw pos (keywordEach [] X.env))) Q X.xe s1)
    (ht : eval (.Call (.Attribute e m apos) args [] pos) X.env = (do
      let ov ← eval e X.env
      standAt apos.atName
      let (f, first) ← holding [ov] (getMethod ov m pl)
      callWith pos f first (backTo pos (starEach args X.env)) (backToKw pos (keywordEach [] X.env)))) :
    wpAny (model X.prog X.w) X.A (eval (.Call (.Attribute e m apos) args [] pos) X.env) Q X.xe s := by
  refine PySem.W.methodCall_KW (pl := pl) (thn (he pins s σ H _ I h) fun u s1 ⟨x, H1, I1, rx, a, C, dx, fs, g, ex, ea, c, k, l, q⟩ => ?_) ht
  subst ex
  obtain rfl : u = Value.ref a := rx
  exact getmeth_ok I1 ea c k l (q s1 I1)
end
section
variable {X : Cx} {pins : List (Addr × Obj)} {σ : St} {H : Hp} {s : Shared} {A : Around} {E : Value → Shared → Prop} {Q : Value → Shared → Prop} {c : Value} {b : Bool}
inductive TyOf (K : PySem.W.Frag) (H : Hp) : V → Value → Prop where
  | non : TyOf K H .non (.type "NoneType")
  | bl (x : Bool) : TyOf K H (.bl x) (.type "bool")
  | int (i : Int) : TyOf K H (.int i) (.type "int")
  | str (x : Str) : TyOf K H (.str x) (.type "str")
  | flt (x : UInt64) : TyOf K H (.flt x) (.type "float")
  | lst {a : Addr} {xs : List V} (e : H a = some (.lst xs)) : TyOf K H (.ref a) (.type "list")
  | frz {a : Addr} {o : Obj} {xs : List V} (e : H a = some (.frz o (.lst xs))) : TyOf K H (.ref a) (.type "list")
  | tup {a : Addr} {xs : List V} (e : H a = some (.tup xs)) : TyOf K H (.ref a) (.type "tuple")
  | dK {a : Addr} {kvs : List (Key × V)} (e : H a = some (.dK kvs)) : TyOf K H (.ref a) (.type "dict")
  | dT {a : Addr} {kvs : List (List Key × V)} (e : H a = some (.dT kvs)) : TyOf K H (.ref a) (.type "dict")
  | ins {a C dx : Addr} {fs : List (Str × V)} (e : H a = some (.ins C dx fs)) (cl : Cls K C) (ha : PySem.W.findIn K (.ref C) "__class__" = some (some (.builtin "object.__class__")))
      (hn : PySem.W.specialIn K (.builtin "object.__class__") "__get__" = some (some (.builtin "getset_descriptor.__get__"))) (htk : PySem.W.takesIn K (.builtin "object.__class__") = some true)
      (hm : PySem.W.mroIn K C (.type "object") = some true) : TyOf K H (.ref a) (.ref C)
theorem isinst_ok {x : V} {u t : Value} (I : Inv X pins σ H s) (rx : RelV x u) (ty : TyOf X.K H x t) (e : PySem.W.kitOne X.K t c = some b) (h : ∀ tk, Q (.bool b) { s with toks := tk }) :
    wpAny (model X.prog X.w) A (call (.builtin "isinstance") [u, c]) Q E s := by
  cases ty with
  | non => cases (show u = Value.none from rx); exact PySem.W.kia_one PySem.W.kitx_none I.kIn True.intro e (fun z => nomatch z) h
  | bl y => cases (show u = Value.bool y from rx); exact PySem.W.kia_one PySem.W.kitx_bool I.kIn True.intro e (fun z => nomatch z) h
  | int i => obtain ⟨t, q⟩ := (show ∃ t, u = Value.int i t from rx); cases q; exact PySem.W.kia_one PySem.W.kitx_int I.kIn True.intro e (fun z => nomatch z) h
  | str y => obtain ⟨t, q⟩ := (show ∃ t, u = Value.str y t from rx); cases q; exact PySem.W.kia_one PySem.W.kitx_str I.kIn True.intro e (fun z => nomatch z) h
  | flt y => obtain ⟨t, q⟩ := (show ∃ t, u = Value.float y t from rx); cases q; exact PySem.W.kia_one PySem.W.kitx_float I.kIn True.intro e (fun z => nomatch z) h
  | @lst a xs ea =>
    cases (show u = Value.ref a from rx)
    obtain ⟨_, _, n, _, h1⟩ := (show ObjOk X.prog X.w H s.heap a (.lst xs) from I.hok a _ ea)
    exact PySem.W.kia_one PySem.W.kitx_list I.kIn ⟨_, h1, rfl⟩ e (fun z => nomatch z) h
  | @frz a ob xs ea =>
    cases (show u = Value.ref a from rx)
    obtain ⟨_, _, _, n, _, h1⟩ := (show ObjOk X.prog X.w H s.heap a (.frz ob (.lst xs)) from I.hok a _ ea)
    exact PySem.W.kia_one PySem.W.kitx_list I.kIn ⟨_, h1, rfl⟩ e (fun z => nomatch z) h
  | @tup a xs ea =>
    cases (show u = Value.ref a from rx)
    obtain ⟨_, _, _, p⟩ := (show ObjOk X.prog X.w H s.heap a (.tup xs) from I.hok a _ ea)
    obtain ⟨o, h1, h2, _⟩ := p
    exact PySem.W.kia_one PySem.W.kitx_tuple I.kIn ⟨o, h1, h2⟩ e (fun z => nomatch z) h
  | @dK a kvs ea =>
    cases (show u = Value.ref a from rx)
    obtain ⟨_, _, vs, _, p⟩ := (show ObjOk X.prog X.w H s.heap a (.dK kvs) from I.hok a _ ea)
    obtain ⟨o, es, ep, h1, h2, _⟩ := p
    exact PySem.W.kia_one PySem.W.kitx_dict I.kIn ⟨o, h1, h2.1⟩ e (fun z => nomatch z) h
  | @dT a kvs ea =>
    cases (show u = Value.ref a from rx)
    obtain ⟨_, _, xs, _, o, es, ep, h1, h2, _⟩ := (show ObjOk X.prog X.w H s.heap a (.dT kvs) from I.hok a _ ea)
    exact PySem.W.kia_one PySem.W.kitx_dict I.kIn ⟨o, h1, h2.1⟩ e (fun z => nomatch z) h
  | @ins a C dx fs ea cl ha hn htk hm =>
    cases (show u = Value.ref a from rx)
    obtain ⟨mA, O, _⟩ := ins_get I.hok ea
    obtain ⟨od, J, _⟩ := O.look
    exact PySem.W.kia_one (PySem.W.kitx_own (cl.get _) cl.hd ha hn htk hm) I.kIn J e (fun z => nomatch z) h
end
end L2
namespace L2
open PySem PySem.Spec PyProof.Rows
structure Room (k : Nat) (A : Around) : Prop where
  hd : A.handled = none
  dp : A.depth + 3 * k + 5 < recursionLimit
  un : A.units + 16 * k + 200 < cLine
theorem Room.mono {j k : Nat} {A : Around} (r : Room k A) (h : j ≤ k) : Room j A := ⟨r.hd, by have := r.dp; omega, by have := r.un; omega⟩
theorem Room.deeper {k : Nat} {A : Around} (r : Room (k + 1) A) (env : Env) : Room k (A.deeper env) :=
  ⟨r.hd, by have := r.dp; show A.depth + 1 + 3 * k + 5 < _; omega, by have := r.un; show A.units + 3 + 16 * k + 200 < _; omega⟩
theorem make_depth {A : Around} {C : Addr} {us : List Value} {kw : List (Str × Value)} : (A.under (.builtin "type.__call__" ⟨.ref C :: us, kw⟩)).depth = A.depth + 1 := by
  first | rfl | simp [Around.under, Code.weight, Code.isCreation, Code.isGuard, Code.isCaller, Code.frames, Code.isFrame, guardIds]
theorem make_units {A : Around} {C : Addr} {us : List Value} {kw : List (Str × Value)} : (A.under (.builtin "type.__call__" ⟨.ref C :: us, kw⟩)).units = A.units + 1 := by
  first | rfl | simp [Around.under, Code.cUnits, Code.frames, Code.isFrame]
theorem Room.make {k : Nat} {A : Around} (r : Room (k + 1) A) (C : Addr) (us : List Value) (kw : List (Str × Value)) : Room k (A.under (.builtin "type.__call__" ⟨.ref C :: us, kw⟩)) :=
  ⟨r.hd, by have := r.dp; rw [make_depth]; omega, by have := r.un; rw [make_units]; omega⟩
theorem Room.depth {k : Nat} {A : Around} (r : Room k A) : A.depth < recursionLimit := by have := r.dp; omega
theorem Room.units {k : Nat} {A : Around} (r : Room k A) : A.units + 64 < cLine := by have := r.un; omega
def tNil : TA := fun _ H Q => Q [] H
def tCons (ta : TE) (tr : TA) : TA := fun σ H Q => ta σ H fun x H1 => tr σ H1 fun xs H2 => Q (x :: xs) H2
section
variable {X : Cx} {e : Expr} {es : List Expr} {te : TE} {t : TA} {pos : Pos}
theorem pa_nil : PA X [] tNil := fun _ _ _ _ H Q I h => Calls.spliced_nil ⟨[], H, I, .nil, h⟩
theorem pa_cons (ha : PE X e te) (hr : PA X es t) (hs : starEach (e :: es) X.env = (false, eval e X.env) :: starEach es X.env := by rfl) : PA X (e :: es) (tCons te t) := by
  intro pos pins s σ H Q I h
  rw [hs]
  show wpAny _ _ (spliced ((false, eval e X.env) :: backTo pos (starEach es X.env))) _ _ s
  refine Calls.spliced_cons (thn (ha pins s σ H _ I h) fun u s1 ⟨x, H1, I1, r1, q1⟩ => ?_)
  exact thn (hr pos pins s1 σ H1 _ I1 q1) fun us s2 ⟨xs, H2, I2, r2, q2⟩ => ⟨x :: xs, H2, I2, .cons r1 r2, q2⟩
def tTup (t : TA) : TE := fun σ H Q => t σ H fun xs H1 => xs.length ≤ sizeLine ∧ ∀ p, H1 p = none → Q (.ref p) (upd H1 p (.tup xs))
def tLst (t : TA) : TE := fun σ H Q => t σ H fun xs H1 => xs.length ≤ sizeLine ∧ ∀ p, H1 p = none → Q (.ref p) (upd H1 p (.lst xs))
theorem pe_tup {x1} (h : PA X es t) : PE X (.Tuple es x1 pos) (tTup t) := by
  intro pins s σ H Q I hq
  refine wpAny_Tuple_spliced (thn (h pos pins s σ H _ I hq) fun us s1 ⟨xs, H1, I1, r, z, q⟩ => ⟨by rw [← r.length]; exact z, ?_⟩)
  have hf : H1 s1.heap.objs.size = none := I1.hok.fresh (Nat.le_refl _)
  refine ⟨.ref s1.heap.objs.size, upd H1 s1.heap.objs.size (.tup xs), I1.laid (t' := s1.toks) (fun b u e => Heap.get?_push_of_some _ e) (Nat.le_refl _) ?_, rfl, q _ hf⟩
  exact ⟨z, us, r, ⟨_, Heap.get?_push_size _ rfl, rfl, _, rfl⟩⟩
theorem pe_lst (h : PA X es t) : PE X (.List es pos) (tLst t) := by
  intro pins s σ H Q I hq
  refine wpAny_List_spliced (thn (h pos pins s σ H _ I hq) fun us s1 ⟨xs, H1, I1, r, z, q⟩ => ⟨by rw [← r.length]; exact z, ?_⟩)
  have hf : H1 s1.heap.objs.size = none := I1.hok.fresh (Nat.le_refl _)
  refine ⟨.ref s1.heap.objs.size, upd H1 s1.heap.objs.size (.lst xs), I1.laid (t' := s1.toks) (fun b u e => Heap.get?_push_of_some _ e) (Nat.le_refl _) ?_, rfl, q _ hf⟩
  exact ⟨z, us, 0, r, Heap.get?_push_size _ rfl⟩
end
abbrev Sp := List V → Hp → VK → XK → Prop
abbrev CXT := List Env → Hp → Shared → XK → Value → Shared → Prop
structure Env0 (P : Program) (w : World) (K : PySem.W.Frag) (mg : Str → Option Value) (base : Heap) (A : Around) (outer : List Env) (s : Shared) (H : Hp) : Prop where
  frames : A.frames = some outer
  mod : Mod K mg base
  bs : ∀ b o, base.get? b = some o → s.heap.get? b = some o ∧ H b = none
  bsz : base.objs.size ≤ s.heap.objs.size
  funs : s.heap.FunFrames base outer
  frf : ∀ b ∈ frs outer, H b = none
  hok : HOk P w H s.heap
  bare : AllBare s.gens
def CE (outer : List Env) (P : Program) (w : World) (H : Hp) (s : Shared) (Q : VK) (u : Value) (s' : Shared) : Prop :=
  ∃ v H', s'.os = s.os ∧ AllBare s'.gens ∧ Un (frs outer) [] H H' s.heap s'.heap ∧ HOk P w H' s'.heap ∧ RelV v u ∧ Q v H'
def CR (CX : CXT) (outer : List Env) (P : Program) (w : World) (H : Hp) (s : Shared) (Q : VK) (E : XK) (r : Result) (s' : Shared) : Prop :=
  match r with
  | .ok (.ret u) => CE outer P w H s Q u s'
  | .ok _ => False
  | .error e => CX outer H s E e s'
structure FnOk (P : Program) (w : World) (K : PySem.W.Frag) (mg : Str → Option Value) (base : Heap) (CX : CXT) (k : Nat) (f : Addr) (fd : FuncData) (ps : List Str) (sp : Sp) : Prop where
  len : ∀ vs H Q E, sp vs H Q E → vs.length = ps.length
  run : ∀ (A : Around) (outer : List Env) (s : Shared) (H : Hp) (args : Args) (us : List Value) (vs : List V) (Q : VK) (E : XK), Room k A → Env0 P w K mg base A outer s H → BindsTo s fd args (ps.zip us) → Vals vs us → sp vs H Q E →
    codeAny (model P w) A (.call (.ref f) args) (CR CX outer P w H s Q E) s
theorem Env0.make {P : Program} {w : World} {K : PySem.W.Frag} {mg : Str → Option Value} {base : Heap} {A : Around} {outer : List Env} {s : Shared} {H : Hp} (e : Env0 P w K mg base A outer s H) (C : Addr) (us : List Value) (kw : List (Str × Value)) :
    Env0 P w K mg base (A.under (.builtin "type.__call__" ⟨.ref C :: us, kw⟩)) outer s H := ⟨by first | exact e.frames | (simpa [Around.under, Code.envs, Code.isFrame, pushEnvs] using e.frames), e.mod, e.bs, e.bsz, e.funs, e.frf, e.hok, e.bare⟩
section
variable {X : Cx} {pins : List (Addr × Obj)} {σ : St} {H : Hp} {s s' : Shared}
theorem Inv.env0 (I : Inv X pins σ H s) : Env0 X.prog X.w X.K X.mg X.base X.A X.stack s H :=
  ⟨I.ok.frames, I.ok.mod, I.bs, Nat.le_trans I.ok.bsz I.sz, I.stack, I.stkFree, I.hok, I.bare⟩
theorem Inv.after {Q : VK} {u : Value} (I : Inv X pins σ H s) (h : CE X.stack X.prog X.w H s Q u s') : EP X pins σ Q u s' := by
  obtain ⟨v, H', os, bare, un, hok, r, q⟩ := h
  obtain ⟨hh, g, d, t, os'⟩ := s'
  obtain rfl : os' = s.os := os
  exact ⟨v, H', I.call (h' := hh) (g' := g) (d' := d) (t' := t) (ch := []) un hok bare (fun b z => absurd z (by simp)), r, q⟩
end
def tCall (sp : Sp) (dvs : List V) (E : XK) (t : TA) : TE := fun σ H Q => t σ H fun vs H1 => sp (vs ++ dvs) H1 Q E
def tMeth (C : Addr) (m : Str) (sp : Sp) (dvs : List V) (E : XK) (ta : TE) (t : TA) : TE := fun σ H Q => ta σ H fun x H1 => ∃ a dx fs, x = .ref a ∧ H1 a = some (.ins C dx fs) ∧ fs.lookup m = none ∧
  t σ H1 fun vs H2 => sp (x :: (vs ++ dvs)) H2 Q E
def tMake (C : Addr) (sp : Sp) (dvs : List V) (E : XK) (t : TA) : TE := fun σ H Q => t σ H fun vs H1 => ∀ x dx, H1 x = none → H1 dx = none → dx ≠ x →
  sp (.ref x :: (vs ++ dvs)) (upd (upd H1 dx (.own x)) x (.ins C dx [])) (fun v H2 => v = .non ∧ Q (.ref x) H2) E
def Binds (K : PySem.W.Frag) (fd : FuncData) (ps : List Str) (ds : List Value) : Prop :=
  ∀ (s : Shared) (us : List Value), K.In s.heap → (us ++ ds).length = ps.length → BindsTo s fd ⟨us, []⟩ (ps.zip (us ++ ds))
theorem Binds.all {K : PySem.W.Frag} {fd : FuncData} {ps : List Str} (h : ∀ us : List Value, us.length = ps.length → bindArgs fd ⟨us, []⟩ = pure (ps.zip us)) : Binds K fd ps [] := fun s us _ hl => by
  rw [List.append_nil] at hl ⊢
  exact .of_eq (h us hl)
def Passes (CX : CXT) (X : Cx) (E : XK) : Prop := ∀ (pins : List (Addr × Obj)) (σ : St) (H : Hp) (s : Shared) (e : Value) (s' : Shared), Inv X pins σ H s → CX X.stack H s E e s' → X.xe e s'
section
variable {X : Cx} {CX : CXT} {k : Nat} {f C : Addr} {fd : FuncData} {ps : List Str} {sp : Sp} {dvs : List V} {ds : List Value} {E : XK} {x m : Str} {p pos apos : Pos} {e o : Expr} {es : List Expr} {ta : TE} {t : TA}
theorem run_fn {pins : List (Addr × Obj)} {σ : St} {H : Hp} {s : Shared} {Q : VK} {us : List Value} {vs : List V} (F : FnOk X.prog X.w X.K X.mg X.base CX k f fd ps sp) (hr : Room k X.A) (hb : Binds X.K fd ps ds) (hd : Vals dvs ds) (hx : Passes CX X E)
    (I : Inv X pins σ H s) (r : Vals vs us) (h : sp (vs ++ dvs) H Q E) : wpAny (model X.prog X.w) X.A (call (.ref f) us) (EP X pins σ Q) X.xe s := by
  have r2 : Vals (vs ++ dvs) (us ++ ds) := r.append hd
  have hl : (us ++ ds).length = ps.length := by rw [← r2.length]; exact F.len _ _ _ _ h
  refine wpAny_call (codeAny_mono (F.run X.A X.stack s H ⟨us, []⟩ (us ++ ds) (vs ++ dvs) Q E hr I.env0 (hb s us I.kIn hl) r2 h) fun r s' hq => ?_)
  cases r with
  | error e => exact hx pins σ H s e s' I hq
  | ok fl =>
    cases fl with
    | ret u => exact I.after hq
    | next => exact False.elim hq
    | brk => exact False.elim hq
    | cont => exact False.elim hq
theorem pe_call (F : FnOk X.prog X.w X.K X.mg X.base CX k f fd ps sp) (hr : Room k X.A) (hg : Gl X x) (hm : X.mg x = some (.ref f)) (hk : PySem.W.keepIn X.K (.ref f) = true) (hb : Binds X.K fd ps ds) (hd : Vals dvs ds) (hx : Passes CX X E)
    (ha : PA X (e :: es) t) (hdb : (x == ("__debug__" : Str)) = false := by decide) (he : starEach (e :: es) X.env = (false, eval e X.env) :: starEach es X.env := by rfl) (hpl : (backTo pos (starEach es X.env)).any (·.1) = false := by rfl) :
    PE X (.Call (.Name x p) (e :: es) [] pos) (tCall sp dvs E t) := by
  intro pins s σ H Q I h
  refine wpAny_Call_Name_kw (ld_glob I hg hm ?_ hdb)
  refine PySem.W.callWith_K (h₀ := X.base) I.ok.mod.kin hk (thn (ha pos pins s σ H _ I h) fun us s1 ⟨vs, H1, I1, r, q⟩ => ⟨I1.kIn, ?_⟩) he hpl
  exact run_fn F hr hb hd hx I1 r q
theorem pe_meth {pl : Sem Bool} (he : PE X o ta) (c : Cls X.K C) (hm : Meth X.K C m f) (F : FnOk X.prog X.w X.K X.mg X.base CX k f fd ps sp) (hr : Room k X.A) (hb : Binds X.K fd ps ds) (hd : Vals dvs ds) (hx : Passes CX X E) (ha : PA X (e :: es) t)
    (hst : starEach (e :: es) X.env = (false, eval e X.env) :: starEach es X.env := by rfl) (hpl : (backTo pos (starEach es X.env)).any (·.1) = false := by rfl)
    (ht : eval (.Call (.Attribute o m apos) (e :: es) [] pos) X.env = (do
      let ov ← eval o X.env
      standAt apos.atName
      let (f, first) ← holding [ov] (getMethod ov m pl)
      callWith pos f first (backTo pos (starEach (e :: es) X.env)) (backToKw pos (keywordEach [] X.env))) := by rfl) :
    PE X (.Call (.Attribute o m apos) (e :: es) [] pos) (tMeth C m sp dvs E ta t) := by
  intro pins s σ H Q I h
  refine PySem.W.methodCall_KW (pl := pl) (thn (he pins s σ H _ I h) fun u s1 ⟨x, H1, I1, rx, a, dx, fs, ex, ea, l, q⟩ => ?_) ht
  subst ex
  obtain rfl : u = Value.ref a := rx
  refine getmeth_ok I1 ea c hm l ?_
  refine PySem.W.callWith_K (first := [.ref a]) (h₀ := X.base) I.ok.mod.kin hm.kp (thn (ha pos pins s1 σ H1 _ I1 q) fun us s2 ⟨vs, H2, I2, r, q2⟩ => ⟨I2.kIn, ?_⟩) hst hpl
  exact run_fn (us := .ref a :: us) (vs := .ref a :: vs) F hr hb hd hx I2 (.cons rfl r) q2
theorem pe_meth0 {pl : Sem Bool} (he : PE X o ta) (c : Cls X.K C) (hm : Meth X.K C m f) (F : FnOk X.prog X.w X.K X.mg X.base CX k f fd ps sp) (hr : Room k X.A) (hb : Binds X.K fd ps ds) (hd : Vals dvs ds) (hx : Passes CX X E)
    (ht : eval (.Call (.Attribute o m apos) [] [] pos) X.env = (do
      let ov ← eval o X.env
      standAt apos.atName
      let (f, first) ← holding [ov] (getMethod ov m pl)
      callWith pos f first (backTo pos (starEach [] X.env)) (backToKw pos (keywordEach [] X.env))) := by rfl) :
    PE X (.Call (.Attribute o m apos) [] [] pos) (tMeth C m sp dvs E ta tNil) := by
  intro pins s σ H Q I h
  refine PySem.W.methodCall_KW (pl := pl) (thn (he pins s σ H _ I h) fun u s1 ⟨x, H1, I1, rx, a, dx, fs, ex, ea, l, q⟩ => ?_) ht
  subst ex
  obtain rfl : u = Value.ref a := rx
  refine getmeth_ok I1 ea c hm l ?_
  exact PySem.W.callWith_K0 (first := [.ref a]) I1.kIn hm.kp (run_fn (us := [.ref a]) (vs := [.ref a]) F hr hb hd hx I1 (.cons rfl .nil) q)
structure Mk (K : PySem.W.Frag) (C f : Addr) : Prop where
  makes : PySem.W.makesIn K C = true
  init : PySem.W.findIn K (.ref C) "__init__" = some (some (.ref f))
  fn : PySem.W.isFn K (.ref f) = true
  kp : PySem.W.keepIn K (.ref C) = true
theorem run_make {pins : List (Addr × Obj)} {σ : St} {H : Hp} {s : Shared} {Q : VK} {us : List Value} {vs : List V} (M : Mk X.K C f) (F : FnOk X.prog X.w X.K X.mg X.base CX k f fd ps sp) (hr : Room (k + 1) X.A) (hb : Binds X.K fd ps ds) (hd : Vals dvs ds)
    (hx : Passes CX X E) (I : Inv X pins σ H s) (r : Vals vs us)
    (h : ∀ x dx, H x = none → H dx = none → dx ≠ x → sp (.ref x :: (vs ++ dvs)) (upd (upd H dx (.own x)) x (.ins C dx [])) (fun v H2 => v = .non ∧ Q (.ref x) H2) E) :
    wpAny (model X.prog X.w) X.A (call (.ref C) us) (EP X pins σ Q) X.xe s := by
  have hq := h (s.heap.objs.size + 1) s.heap.objs.size (I.hok.fresh (Nat.le_succ _)) (I.hok.fresh (Nat.le_refl _)) (Nat.ne_of_lt (Nat.lt_succ_self _))
  have I2 := Inv.made (C := C) I
  have r2 : Vals (V.ref (s.heap.objs.size + 1) :: (vs ++ dvs)) (Value.ref (s.heap.objs.size + 1) :: (us ++ ds)) := .cons rfl (r.append hd)
  have hl : (Value.ref (s.heap.objs.size + 1) :: us ++ ds).length = ps.length := by
    have e := r2.length
    rw [F.len _ _ _ _ hq] at e
    exact e.symm
  refine wpAny_call (make_map (f := f) I.kIn M.makes M.init (beq_iff_eq.mp M.fn) (codeAny_mono (F.run _ X.stack _ _ ⟨Value.ref (s.heap.objs.size + 1) :: us, []⟩ (Value.ref (s.heap.objs.size + 1) :: (us ++ ds)) _ _ E (hr.make C us [])
    (I2.env0.make C us []) (hb _ (Value.ref (s.heap.objs.size + 1) :: us) I2.kIn hl) r2 hq) fun r s' hq' => ?_))
  cases r with
  | error e => exact hx pins σ _ _ e s' I2 hq'
  | ok fl =>
    cases fl with
    | ret u =>
      obtain ⟨v, H', I3, rv, ev, q3⟩ := I2.after hq'
      subst ev
      exact ⟨rv, ⟨V.ref (s.heap.objs.size + 1), H', I3, rfl, q3⟩⟩
    | next => exact False.elim hq'
    | brk => exact False.elim hq'
    | cont => exact False.elim hq'
theorem pe_make (M : Mk X.K C f) (F : FnOk X.prog X.w X.K X.mg X.base CX k f fd ps sp) (hr : Room (k + 1) X.A) (hg : Gl X x) (hm : X.mg x = some (.ref C)) (hb : Binds X.K fd ps ds) (hd : Vals dvs ds) (hx : Passes CX X E)
    (ha : PA X (e :: es) t) (hdb : (x == ("__debug__" : Str)) = false := by decide) (he : starEach (e :: es) X.env = (false, eval e X.env) :: starEach es X.env := by rfl) (hpl : (backTo pos (starEach es X.env)).any (·.1) = false := by rfl) :
    PE X (.Call (.Name x p) (e :: es) [] pos) (tMake C sp dvs E t) := by
  intro pins s σ H Q I h
  refine wpAny_Call_Name_kw (ld_glob I hg hm ?_ hdb)
  refine PySem.W.callWith_K (h₀ := X.base) I.ok.mod.kin M.kp (thn (ha pos pins s σ H _ I h) fun us s1 ⟨vs, H1, I1, r, q⟩ => ⟨I1.kIn, ?_⟩) he hpl
  exact run_make M F hr hb hd hx I1 r q
end
def PK (X : Cx) (kws : List Keyword) (t : TA) : Prop :=
  ∀ (pos : Pos) (pins : List (Addr × Obj)) (s : Shared) (σ : St) (H : Hp) (Q : List V → Hp → Prop), Inv X pins σ H s → t σ H Q → wpAny (model X.prog X.w) X.A (evalAll ((backToKw pos (keywordEach kws X.env)).map (·.2))) (AP X pins σ Q) X.xe s
section
variable {X : Cx} {CX : CXT} {k : Nat} {f C : Addr} {fd : FuncData} {ps ks : List Str} {sp : Sp} {E : XK} {x m : Str} {p pos apos kpos : Pos} {e o : Expr} {es : List Expr} {kws : List Keyword} {te ta : TE} {t tk : TA} {nm : Option Str}
theorem pk_nil : PK X [] tNil := fun _ _ _ _ H Q I h => wpAny_evalAll_nil ⟨[], H, I, .nil, h⟩
theorem pk_cons (ha : PE X e te) (hr : PK X kws t) : PK X (⟨nm, e, kpos⟩ :: kws) (tCons te t) := by
  intro pos pins s σ H Q I h
  show wpAny _ _ (evalAll ((do let v ← eval e X.env; standAt pos; pure v) :: (backToKw pos (keywordEach kws X.env)).map (·.2))) _ _ s
  refine wpAny_evalAll_cons (wpAny_bind (thn (ha pins s σ H _ I h) fun u s1 ⟨x, H1, I1, r1, q1⟩ => wpAny_bind (wpAny_standAt (wpAny_pure ?_))))
  exact thn (hr pos pins s1 σ H1 _ I1 q1) fun us s2 ⟨xs, H2, I2, r2, q2⟩ => ⟨x :: xs, H2, I2, .cons r1 r2, q2⟩
structure KBinds (K : PySem.W.Frag) (fd : FuncData) (ps ks : List Str) (g : List Value → List Value → List Value) (gV : List V → List V → List V) : Prop where
  to : ∀ (s : Shared) (us ws : List Value), K.In s.heap → (g us ws).length = ps.length → BindsTo s fd ⟨us, ks.zip ws⟩ (ps.zip (g us ws))
  rel : ∀ {vs : List V} {us : List Value} {zs : List V} {ws : List Value}, Vals vs us → Vals zs ws → Vals (gV vs zs) (g us ws)
def tCallK (sp : Sp) (gV : List V → List V → List V) (E : XK) (t tk : TA) : TE := fun σ H Q => t σ H fun vs H1 => tk σ H1 fun zs H2 => sp (gV vs zs) H2 Q E
variable {g : List Value → List Value → List Value} {gV : List V → List V → List V}
theorem run_fnk {pins : List (Addr × Obj)} {σ : St} {H : Hp} {s : Shared} {Q : VK} {us ws : List Value} {vs zs : List V} (F : FnOk X.prog X.w X.K X.mg X.base CX k f fd ps sp) (hr : Room k X.A) (hb : KBinds X.K fd ps ks g gV) (hx : Passes CX X E)
    (I : Inv X pins σ H s) (r : Vals vs us) (rz : Vals zs ws) (h : sp (gV vs zs) H Q E) : wpAny (model X.prog X.w) X.A (call (.ref f) us (ks.zip ws)) (EP X pins σ Q) X.xe s := by
  have r2 := hb.rel r rz
  have hl : (g us ws).length = ps.length := by rw [← r2.length]; exact F.len _ _ _ _ h
  refine wpAny_call (codeAny_mono (F.run X.A X.stack s H ⟨us, ks.zip ws⟩ (g us ws) (gV vs zs) Q E hr I.env0 (hb.to s us ws I.kIn hl) r2 h) fun r s' hq => ?_)
  cases r with
  | error e => exact hx pins σ H s e s' I hq
  | ok fl =>
    cases fl with
    | ret u => exact I.after hq
    | next => exact False.elim hq
    | brk => exact False.elim hq
    | cont => exact False.elim hq
theorem pe_callK (F : FnOk X.prog X.w X.K X.mg X.base CX k f fd ps sp) (hr : Room k X.A) (hg : Gl X x) (hm : X.mg x = some (.ref f)) (hk : PySem.W.keepIn X.K (.ref f) = true) (hb : KBinds X.K fd ps ks g gV) (hx : Passes CX X E)
    (ha : PA X (e :: es) t) (hkw : PK X kws tk) (hall : (backToKw pos (keywordEach kws X.env)).all (·.1.isSome) = true := by rfl) (hks : (backToKw pos (keywordEach kws X.env)).filterMap (·.1) = ks := by rfl)
    (hdb : (x == ("__debug__" : Str)) = false := by decide) (he : starEach (e :: es) X.env = (false, eval e X.env) :: starEach es X.env := by rfl)
    (hpl : ((backTo pos (starEach (e :: es) X.env)).any (·.1) || (backToKw pos (keywordEach kws X.env)).any (·.1.isNone)) = false := by rfl) :
    PE X (.Call (.Name x p) (e :: es) kws pos) (tCallK sp gV E t tk) := by
  intro pins s σ H Q I h
  refine wpAny_Call_Name_kw (ld_glob I hg hm ?_ hdb)
  refine PySem.W.callWith_KW (h₀ := X.base) I.ok.mod.kin hk hall (thn (ha pos pins s σ H _ I h) fun us s1 ⟨vs, H1, I1, r, q⟩ => ?_) hpl he
  refine thn (hkw pos pins s1 σ H1 _ I1 q) fun ws s2 ⟨zs, H2, I2, rz, q2⟩ => ⟨I2.kIn, ?_⟩
  rw [hks]
  exact run_fnk F hr hb hx I2 r rz q2
end
structure FnScope (N P : List Str) (sc : Scope) : Prop where
  kind : sc.kind = .function
  co : sc.isCoroutine = false
  gen : sc.isGenerator = false
  nd : N.Nodup
  pre : N.take P.length = P
  par : ∀ x ∈ P, sc.names.lookup x = some .local ∨ sc.names.lookup x = some .cell
  nofree : ∀ y ∈ sc.names, y.2 ≠ .free
theorem bindL_out {kindOf : Str → Option NameKind} {x : Str} : ∀ {binds : List (Str × Value)} {m : Str → Option Value}, (∀ v, (x, v) ∉ binds) → bindL kindOf binds m x = m x
  | [], _, _ => rfl
  | (n, v) :: r, m, h => by
    unfold bindL
    rw [bindL_out fun w hw => h w (List.mem_cons_of_mem _ hw)]
    split
    · have : x ≠ n := by rintro rfl; exact h v List.mem_cons_self
      simp [this]
    · rfl
theorem bindC_out {kindOf : Str → Option NameKind} {x : Str} : ∀ {binds : List (Str × Value)} {m : Str → Option Value}, (∀ v, (x, v) ∉ binds) → bindC kindOf binds m x = m x
  | [], _, _ => rfl
  | (n, v) :: r, m, h => by
    unfold bindC
    rw [bindC_out fun w hw => h w (List.mem_cons_of_mem _ hw)]
    split
    · rfl
    · have : x ≠ n := by rintro rfl; exact h v List.mem_cons_self
      simp [this]
theorem bindL_get {kindOf : Str → Option NameKind} {x : Str} {v : Value} : ∀ {P : List Str} {vs : List Value} {i : Nat} {m : Str → Option Value}, P.Nodup → P[i]? = some x → vs[i]? = some v → kindOf x = some .local →
    bindL kindOf (P.zip vs) m x = some v
  | [], _, _, _, _, h, _, _ => by simp at h
  | _ :: _, [], _, _, _, _, h, _ => by simp at h
  | p :: P, w :: vs, 0, m, nd, h1, h2, hk => by
    simp at h1 h2; subst h1; subst h2
    show bindL kindOf ((p, w) :: P.zip vs) m p = _
    unfold bindL
    rw [bindL_out fun v hv => (List.nodup_cons.mp nd).1 (List.of_mem_zip hv).1, if_pos hk]
    simp
  | p :: P, w :: vs, i + 1, m, nd, h1, h2, hk => by
    show bindL kindOf ((p, w) :: P.zip vs) m x = _
    unfold bindL
    exact bindL_get (i := i) (List.nodup_cons.mp nd).2 (by simpa using h1) (by simpa using h2) hk
theorem bindC_get {kindOf : Str → Option NameKind} {x : Str} {v : Value} : ∀ {P : List Str} {vs : List Value} {i : Nat} {m : Str → Option Value}, P.Nodup → P[i]? = some x → vs[i]? = some v → kindOf x ≠ some .local →
    bindC kindOf (P.zip vs) m x = some v
  | [], _, _, _, _, h, _, _ => by simp at h
  | _ :: _, [], _, _, _, _, h, _ => by simp at h
  | p :: P, w :: vs, 0, m, nd, h1, h2, hk => by
    simp at h1 h2; subst h1; subst h2
    show bindC kindOf ((p, w) :: P.zip vs) m p = _
    unfold bindC
    rw [bindC_out fun v hv => (List.nodup_cons.mp nd).1 (List.of_mem_zip hv).1, if_neg hk]
    simp
  | p :: P, w :: vs, i + 1, m, nd, h1, h2, hk => by
    show bindC kindOf ((p, w) :: P.zip vs) m x = _
    unfold bindC
    exact bindC_get (i := i) (List.nodup_cons.mp nd).2 (by simpa using h1) (by simpa using h2) hk
def start (N : List Str) (vs : List V) : St := vs.map some ++ List.replicate (N.length - vs.length) none
def cxOf (CX : CXT) (P : Program) (w : World) (K : PySem.W.Frag) (mg : Str → Option Value) (base : Heap) (N : List Str) (qual : Str) (scope : Scope) (f : Addr) (cd : Value) (A : Around) (outer : List Env) (s : Shared) (H : Hp) (E : XK) : Cx where
  prog := P
  w := w
  K := K
  mg := mg
  base := base
  A := A.deeper (envOfC qual scope s.heap.objs.size f cd)
  N := N
  s₀ := s
  H₀ := H
  env := envOfC qual scope s.heap.objs.size f cd
  outer := outer
  stack := envOfC qual scope s.heap.objs.size f cd :: outer
  ex := []
  calm := true
  fn := fun _ => true
  pn := []
  xe := fun e s' => wpAny (model P w) (A.deeper (envOfC qual scope s.heap.objs.size f cd)) (leaving (envOfC qual scope s.heap.objs.size f cd) e) (fun _ s'' => CX outer H s E e s'') (fun e' s'' => CX outer H s E e' s'') s'
theorem cell_has {sc : Scope} {n : Nat} {x : Str} (h : sc.names.lookup x = some .cell) : ∃ c, (cellsFrom n sc.names []).lookup x = some c := by
  have q := PySem.W.cellsFrom_some sc.names n [] (.inl h)
  exact Option.isSome_iff_exists.mp q
theorem inv_start {CX : CXT} {P : Program} {w : World} {K : PySem.W.Frag} {mg : Str → Option Value} {base : Heap} {N ps : List Str} {qual : Str} {scope : Scope} {f : Addr} {cd : Value} {A : Around} {outer : List Env} {s s1 : Shared} {H : Hp} {E : XK} {us : List Value} {vs : List V}
    (S : FnScope N ps scope) (hd : A.handled = none) (e0 : Env0 P w K mg base A outer s H) (hl : vs.length = ps.length) (r : Vals vs us)
    (x : InCallC s s.heap.objs.size (bindL (envOfC qual scope s.heap.objs.size f cd).kindOf (ps.zip us) fun _ => none) (cellsFrom (s.heap.objs.size + 1) scope.names []) (bindC (envOfC qual scope s.heap.objs.size f cd).kindOf (ps.zip us) fun _ => none) s1) :
    Inv (cxOf CX P w K mg base N qual scope f cd A outer s H E) [] (start N vs) H s1 := by
  have hpl : ps.length ≤ N.length := by have := congrArg List.length S.pre; rw [List.length_take] at this; omega
  obtain ⟨h1, tk, rfl, hk⟩ := x.done
  have noA : ∀ b : Addr, b ∉ (cxOf CX P w K mg base N qual scope f cd A outer s H E).ex := fun b z => absurd (show b ∈ ([] : List Addr) from z) (by simp)
  refine ⟨⟨e0.mod, S.kind, rfl, rfl, Nat.le_refl _, fun y z c h1 h2 => ?_, fun y hy => ?_, fun y c _ h => ?_, fun _ => hd, Around.frames_deeper e0.frames, .inr ⟨rfl, rfl⟩, fun b z => absurd z (noA b), e0.bs, e0.bsz, fun b _ _ => noA b, fun b z => absurd z (noA b), e0.funs, e0.frf⟩,
    rfl, e0.bare, Un.kept hk, ⟨_, x.toInCall.ns, fun i y v h1 h2 h3 => ?_⟩, fun y c h => ⟨_, x.cell y c h⟩, e0.hok.fresh (Nat.le_refl _), fun y c h => ?_, fun p hp => absurd (show p ∈ ([] : List (Addr × Obj)) from hp) (by simp), e0.hok.kept hk, ?_⟩
  · exact name_of_addr x.apart (PySem.mem_of_lookup h1) (PySem.mem_of_lookup h2)
  · have hy : scope.names.lookup y = some .cell ∨ scope.names.lookup y = some .free := hy
    rcases hy with hy | hy
    · exact cell_has hy
    · exact absurd rfl (S.nofree _ (PySem.mem_of_lookup hy))
  · exact Nat.le_of_lt (x.above y c (PySem.mem_of_lookup h))
  · have hi : i < vs.length := by
      unfold start at h2
      by_cases hi : i < vs.length
      · exact hi
      · rw [List.getElem?_append_right (by simpa using hi)] at h2
        rw [List.getElem?_replicate] at h2
        split at h2 <;> cases h2
    have ha : vs[i]? = some v := by
      unfold start at h2
      rw [List.getElem?_append_left (by simpa using hi), List.getElem?_map] at h2
      cases e : vs[i]? with
      | none => rw [e] at h2; cases h2
      | some a => rw [e] at h2; cases h2; rfl
    obtain ⟨u, hu, rv⟩ := r.get ha
    have hp : ps[i]? = some y := by
      rw [← S.pre, List.getElem?_take_of_lt (by omega)]; exact h1
    have ndP : ps.Nodup := by rw [← S.pre]; exact S.nd.sublist (List.take_sublist _ _)
    refine ⟨u, rv, ?_⟩
    rcases S.par y (List.mem_of_getElem? hp) with k | k
    · exact .inl ⟨k, bindL_get ndP hp hu k⟩
    · obtain ⟨c, e⟩ := cell_has (n := s.heap.objs.size + 1) k
      refine .inr ⟨.inl k, c, e, ?_⟩
      have q := x.cell y c e
      rw [bindC_get ndP hp hu (by show scope.names.lookup y ≠ _; rw [k]; decide)] at q
      exact q
  · exact e0.hok.fresh (Nat.le_of_lt (x.above y c (PySem.mem_of_lookup h)))
  · unfold start
    show _ = N.length
    rw [List.length_append, List.length_map, List.length_replicate]
    omega
theorem fn_of {CX : CXT} {P : Program} {w : World} {K : PySem.W.Frag} {mg : Str → Option Value} {base : Heap} {k : Nat} {f : Addr} {name qual : Str} {params : Arguments} {body : List Stmt} {scope : Scope} {dV kV doc pm cdv ct oc : Value} {an od : Option Addr}
    {osl : Array (Option Value)} {N ps : List Str} {sp : Sp} (lk : K.lookup f = some ⟨oc, od, .func (PySem.W.fnOf name qual params body scope dV kV doc pm an cdv ct), osl⟩) (hcd : PySem.W.codeIn K cdv qual = true) (S : FnScope N ps scope)
    (len : ∀ vs H Q E, sp vs H Q E → vs.length = ps.length)
    (hbody : ∀ (A : Around) (outer : List Env) (s : Shared) (H : Hp) (vs : List V) (Q : VK) (E : XK), Room k (A.deeper (envOfC qual scope s.heap.objs.size f cdv)) → sp vs H Q E →
      ∃ t, PSs (cxOf CX P w K mg base N qual scope f cdv A outer s H E) body t ∧ t { nx := fun _ H' => Q .non H', rt := Q } (start N vs) H) :
    FnOk P w K mg base CX (k + 1) f (PySem.W.fnOf name qual params body scope dV kV doc pm an cdv ct) ps sp := by
  refine ⟨len, fun A outer s H args us vs Q E hr e0 hb r hsp => ?_⟩
  have hl := len _ _ _ _ hsp
  have KX : K.In s.heap := e0.mod.kin.keeps fun b o e => (e0.bs b o e).1
  have lim : s.heap.NoLimit := e0.mod.nolimit.keeps fun b o e => (e0.bs b o e).1
  have hkind : ∀ y ∈ ps.zip us, scope.names.lookup y.1 = some .local ∨ (scope.names.lookup y.1 = some .cell ∧ ((cellsFrom (s.heap.objs.size + 1) scope.names []).lookup y.1).isSome = true) := fun ⟨n, v⟩ hy => by
    rcases S.par n (List.of_mem_zip hy).1 with q | q
    · exact .inl q
    · exact .inr ⟨q, PySem.W.cellsFrom_some _ _ _ (.inl q)⟩
  refine codeAny_call_function hr.depth (KX _ _ lk) rfl S.co S.gen rfl (PySem.W.codeRec_of KX hcd) (hb _ _ _ _ ?_)
  refine wpAny_newFunctionEnv_cells S.kind hkind fun env he s1 x => ?_
  subst he
  refine ⟨lim.keeps x.toInCall.keep, codeAny_func ?_⟩
  obtain ⟨t, ht, hq⟩ := hbody A outer s H vs Q E (hr.deeper _) hsp
  have I : Inv (cxOf CX P w K mg base N qual scope f cdv A outer s H E) [] (start N vs) H s1 := inv_start S hr.hd e0 hl r x
  refine wpAny_mono (ht [] s1 (start N vs) H _ I hq) (fun fl s' hs => ?_) fun e s' hs => hs
  have fin : ∀ {σ' : St} {H' : Hp} {v : V} {u : Value}, Inv (cxOf CX P w K mg base N qual scope f cdv A outer s H E) [] σ' H' s' → RelV v u → Q v H' → CE outer P w H s Q u s' :=
    fun {σ' H' v u} J rv q => ⟨v, H', J.os, J.bare, J.base, J.hok, rv, q⟩
  cases fl with
  | ret u =>
    obtain ⟨v, σ', H', J, rv, q⟩ := hs
    exact fin J rv q
  | next =>
    obtain ⟨σ', H', J, q⟩ := hs
    exact fin (v := V.non) (u := Value.none) J rfl q
  | brk =>
    obtain ⟨_, _, _, q⟩ := hs
    exact False.elim q
  | cont =>
    obtain ⟨_, _, _, q⟩ := hs
    exact False.elim q
end L2
namespace L2
open PySem PySem.Spec PyProof.Rows
section
variable {X : Cx} {x : Str} {p pos : Pos} {e : Expr} {es : List Expr} {t : TA} {id T : String} {r : List V → Hp → VK → Prop}
def tCB (r : List V → Hp → VK → Prop) (t : TA) : TE := fun σ H Q => t σ H fun vs H1 => r vs H1 Q
theorem pe_callB (hc : CallR X (.builtin id) r) (hg : Gl X x) (hm : X.mg x = none) (hv : bootBuiltins x = some (.builtin id)) (ha : PA X (e :: es) t) (hn : x ≠ "__name__" := by decide) (hdb : (x == ("__debug__" : Str)) = false := by decide)
    (he : starEach (e :: es) X.env = (false, eval e X.env) :: starEach es X.env := by rfl) (hpl : (backTo pos (starEach es X.env)).any (·.1) = false := by rfl) : PE X (.Call (.Name x p) (e :: es) [] pos) (tCB r t) := by
  intro pins s σ H Q I h
  refine wpAny_Call_Name_kw (ld_blt I hg hm hv ?_ hn hdb)
  exact PyProof.Rows.callWith_builtin1 (thn (ha pos pins s σ H _ I h) fun us s1 ⟨vs, H1, I1, r1, q1⟩ => hc pins s1 σ H1 vs us Q I1 r1 q1) he hpl
theorem pe_callTy (hc : CallR X (.type T) r) (hg : Gl X x) (hm : X.mg x = none) (hv : bootBuiltins x = some (.type T)) (ha : PA X (e :: es) t) (hn : x ≠ "__name__" := by decide) (hdb : (x == ("__debug__" : Str)) = false := by decide)
    (he : starEach (e :: es) X.env = (false, eval e X.env) :: starEach es X.env := by rfl) (hpl : (backTo pos (starEach es X.env)).any (·.1) = false := by rfl) : PE X (.Call (.Name x p) (e :: es) [] pos) (tCB r t) := by
  intro pins s σ H Q I h
  refine wpAny_Call_Name_kw (ld_blt I hg hm hv ?_ hn hdb)
  exact PyProof.Rows.callWith_type1 (thn (ha pos pins s σ H _ I h) fun us s1 ⟨vs, H1, I1, r1, q1⟩ => hc pins s1 σ H1 vs us Q I1 r1 q1) he hpl
end
end L2
namespace HT
open PySem PyProof.Rows
section
open PySem.SeqAt
open PySem.AutoSeq1 (wpAny_loadPart')
open PySem.MeetsSeq PySem.MeetsSeq2 PySem.MeetsSeq3
end
section
variable {prog : Program} {w : World} {A : Around} {E : Value → Shared → Prop} {s : Shared}
end
end HT
namespace L2
open PySem PySem.Spec PyProof.Rows
theorem intsAre_of {ns : List Int} : ∀ {us : List Value}, Vals (ns.map V.int) us → IntsAre us ns := by
  induction ns with
  | nil => intro us r; rw [List.map_nil] at r; cases r; exact .nil
  | cons n ns ih =>
    intro us r
    rw [List.map_cons] at r
    cases r with
    | cons r1 r2 =>
      obtain ⟨t, e⟩ := r1
      subst e
      exact .cons n t (ih r2)
section
variable {X : Cx} {e : Expr} {te : TE} {lo hi : Option Expr} {tl th : TO} {pos p2 : Pos}
end
end L2
namespace L2
open PySem PySem.Spec PyProof.Rows
def ixN (n : Nat) (i : Int) : Option Nat := if 0 ≤ i then (if i < n then some i.toNat else none) else if -(n : Int) ≤ i then some (i + n).toNat else none
def atI {α : Type} (xs : List α) (i : Int) : Option α := (ixN xs.length i).bind fun j => xs[j]?
theorem ixN_seq {n : Nat} {i : Int} {j : Nat} (h : ixN n i = some j) : seqIndex? i n = some j ∧ j < n ∧ -(n : Int) ≤ i ∧ i < n := by
  unfold ixN at h
  by_cases h0 : 0 ≤ i
  · rw [if_pos h0] at h
    by_cases h1 : i < n
    · rw [if_pos h1] at h
      have e : i.toNat = j := Option.some.inj h
      exact ⟨by rw [seqIndex_of h0 h1, e], by omega, by omega, h1⟩
    · rw [if_neg h1] at h; cases h
  · rw [if_neg h0] at h
    by_cases h1 : -(n : Int) ≤ i
    · rw [if_pos h1] at h
      have e : (i + n).toNat = j := Option.some.inj h
      exact ⟨by rw [seqIndex_neg (by omega) h1, e], by omega, h1, by omega⟩
    · rw [if_neg h1] at h; cases h
theorem atI_get {α : Type} {xs : List α} {i : Int} {v : α} (h : atI xs i = some v) : ∃ j, seqIndex? i xs.length = some j ∧ xs[j]? = some v ∧ j < xs.length ∧ -(xs.length : Int) ≤ i ∧ i < xs.length := by
  unfold atI at h
  cases e : ixN xs.length i with
  | none => rw [e] at h; cases h
  | some j =>
    rw [e] at h
    obtain ⟨h1, h2, h3, h4⟩ := ixN_seq e
    exact ⟨j, h1, h, h2, h3, h4⟩
def PlainIx (b : Expr) : Prop := ∀ o i, subscripted b false o i = operate [o, i] (getItem o i)
def IxR (X : Cx) (r : R2) : Prop :=
  ∀ (value slice : Expr) (pins : List (Addr × Obj)) (s : Shared) (σ : St) (H : Hp) (x y : V) (v u : Value) (Q : VK), Inv X pins σ H s → RelV x v → RelV y u → r x y H Q →
    subscripted slice false v u = operate [v, u] (getItem v u) → wpAny (model X.prog X.w) X.A (subscriptTail value slice v u) (EP X pins σ Q) X.xe s
def MtR (X : Cx) (id : String) (r : V → List V → Hp → VK → Prop) : Prop :=
  ∀ (pins : List (Addr × Obj)) (s : Shared) (σ : St) (H : Hp) (x : V) (xs : List V) (v : Value) (us : List Value) (Q : VK), Inv X pins σ H s → RelV x v → Vals xs us → r x xs H Q →
    wpAny (model X.prog X.w) X.A (call (.builtin id) (v :: us)) (EP X pins σ Q) X.xe s
section
variable {X : Cx} {a b : Expr} {ta tb : TE} {pos : Pos}
theorem pe_ix {r : R2} (hr : IxR X r) (ha : PE X a ta) (hb : PE X b tb) (hs : PlainIx b) : PE X (.Subscript a b pos) (tOp r ta tb) := by
  intro pins s σ H Q I h
  exact Subscript_ (binT ha hb I h fun v u s2 x y H2 I2 rx ry q => hr a b pins s2 σ H2 x y v u Q I2 rx ry q (hs _ _))
def rIxL (K : PySem.W.Frag) : R2 := fun x y H Q => ∃ p xs i v, x = .ref p ∧ y = .int i ∧ SqL K H p xs ∧ atI xs i = some v ∧ Q v H
def rIxT (K : PySem.W.Frag) : R2 := fun x y H Q => ∃ p xs i v, x = .ref p ∧ y = .int i ∧ SqT K H p xs ∧ atI xs i = some v ∧ Q v H
theorem ix_list : IxR X (rIxL X.K) := by
  intro value slice pins s σ H x y v u Q I rx ry h hs
  obtain ⟨p, xs, i, z, rfl, rfl, hq, he, q⟩ := h
  cases rx
  obtain ⟨t, rfl⟩ := ry
  obtain ⟨its, r, pl, hz⟩ := I.list hq
  obtain ⟨j, h1, h2, h3, h4, h5⟩ := atI_get he
  obtain ⟨w, ew, rw'⟩ := r.get h2
  have hl := r.length
  have hn := line63
  have fin : EP X pins σ Q w s := ⟨z, H, I, rw', q⟩
  by_cases h0 : 0 ≤ i
  · have hj : i.toNat = j := by
      rw [seqIndex_of h0 h5] at h1
      exact Option.some.inj h1
    exact item_listR pl.isList h0 (by omega) (by rw [hj]; simpa using ew) fin hs
  · have hj : (i + (its.toArray.size : Int)).toNat = j := by
      rw [seqIndex_neg (by omega) h4] at h1
      rw [List.size_toArray, ← hl]
      exact Option.some.inj h1
    exact subscriptTail_builtinR (x := w) pl.isList.typeIs slot_list_getitem.lookup
      (wpAny_getItem_list_neg (Q := fun r s' => r = w ∧ EP X pins σ Q r s') pl.isList (by omega) (by rw [List.size_toArray] <;> omega) (by omega) (by rw [hj]; simpa using ew) ⟨rfl, fin⟩) hs
theorem ix_tup : IxR X (rIxT X.K) := by
  intro value slice pins s σ H x y v u Q I rx ry h hs
  obtain ⟨p, xs, i, z, rfl, rfl, hq, he, q⟩ := h
  cases rx
  obtain ⟨t, rfl⟩ := ry
  obtain ⟨its, r, pl, hz⟩ := I.tuple hq
  obtain ⟨j, h1, h2, h3, h4, h5⟩ := atI_get he
  obtain ⟨w, ew, rw'⟩ := r.get h2
  have hl := r.length
  have hn := line63
  have fin : EP X pins σ Q w s := ⟨z, H, I, rw', q⟩
  exact subscriptTail_builtinR (x := w) pl.typeIs slot_tuple_getitem.lookup
    (getItem_tuple (j := j) (Q := fun r s' => r = w ∧ EP X pins σ Q r s') pl (by omega) (by omega) (by rw [List.size_toArray, ← hl]; exact h1) (by simpa using ew) ⟨rfl, fin⟩) hs
theorem mapSeq_set (its : List Value) (n j : Nat) (u : Value) : Obj.mapSeq (·.setIfInBounds j u) { cls := .type "list", data := .seq its.toArray n } = { cls := .type "list", data := .seq (its.set j u).toArray n } := by
  simp [Obj.mapSeq]
theorem Inv.lst {pins : List (Addr × Obj)} {σ : St} {H : Hp} {s : Shared} {p : Addr} {xs : List V} (I : Inv X pins σ H s) (h : H p = some (.lst xs)) :
    ∃ (its : List Value) (n : Nat), Vals xs its ∧ s.heap.get? p = some { cls := .type "list", data := .seq its.toArray n } ∧ xs.length ≤ sizeLine := by
  obtain ⟨z, its, n, r, e⟩ := I.hok p _ h
  exact ⟨its, n, r, e, z⟩
theorem Inv.lstUpd {pins : List (Addr × Obj)} {σ : St} {H : Hp} {s : Shared} {p : Addr} {xs ys : List V} {its its' : List Value} {n n' : Nat} {f : Obj → Obj} (I : Inv X pins σ H s) (h : H p = some (.lst xs))
    (ho : s.heap.get? p = some { cls := .type "list", data := .seq its.toArray n }) (hf : f { cls := .type "list", data := .seq its.toArray n } = { cls := .type "list", data := .seq its'.toArray n' }) (r : Vals ys its') (hz : ys.length ≤ sizeLine) (t : Nat) :
    Inv X pins σ (upd H p (.lst ys)) { s with heap := s.heap.update p f, toks := t } := by
  have e : (s.heap.update p f).get? p = some { cls := .type "list", data := .seq its'.toArray n' } := by
    rw [Heap.get?_update_self f ho (by rw [hf] <;> rfl), hf]
  refine I.write (x := p) (e := p) (by rw [h]; trivial) (.inl rfl) (fun b u hb q => (Heap.get?_update_other _ _ (Ne.symm hb)).trans q) ⟨_, e⟩ ?_
  exact ⟨hz, its', n', r, e⟩
def rSetL : V → V → V → Hp → (Hp → Prop) → Prop := fun o i v H Q => ∃ p xs k j, o = .ref p ∧ i = .int k ∧ H p = some (.lst xs) ∧ ixN xs.length k = some j ∧ Q (upd H p (.lst (xs.set j v)))
theorem set_list : PSet X rSetL := by
  intro pins s σ H o i v ov iv u Q I ro ri rv h
  obtain ⟨p, xs, k, j, rfl, rfl, hp, hj, q⟩ := h
  cases ro
  obtain ⟨t, rfl⟩ := ri
  obtain ⟨its, n, r, ho, hz⟩ := I.lst hp
  obtain ⟨h1, h2, h3, h4⟩ := ixN_seq hj
  have hl := r.length
  have hn := line63
  have I' : Inv X pins σ (upd H p (.lst (xs.set j v))) { s with heap := s.heap.update p (Obj.mapSeq (·.setIfInBounds j u)) } :=
    I.lstUpd hp ho (mapSeq_set its n j u) (r.set rv j) (by rw [List.length_set]; exact hz) s.toks
  by_cases h0 : 0 ≤ k
  · have hk : k.toNat = j := by
      rw [seqIndex_of h0 h4] at h1
      exact Option.some.inj h1
    exact PySem.W.ki_setAt ho h0 (by omega) (by rw [List.size_toArray, ← hl]; exact h4) (by rw [hk]; exact ⟨_, I', q⟩)
  · have hk : (k + (its.toArray.size : Int)).toNat = j := by
      rw [seqIndex_neg (by omega) h3] at h1
      rw [List.size_toArray, ← hl]
      exact Option.some.inj h1
    exact PySem.W.ki_setBack ho (by omega) (by rw [List.size_toArray, ← hl]; exact h3) (by omega) (by rw [hk]; exact ⟨_, I', q⟩)
def flatV : V → Bool
  | .non => true
  | .bl _ => true
  | .int _ => true
  | .str _ => true
  | _ => false
def eqV : V → V → Bool
  | .non, .non => true
  | .bl a, .bl b => a == b
  | .bl a, .int b => (if a then 1 else 0) == b
  | .int a, .bl b => a == (if b then 1 else 0)
  | .int a, .int b => a == b
  | .str a, .str b => a == b
  | _, _ => false
theorem eqAt_V {A : Around} {s : Shared} {y x : V} {u v : Value} (ry : RelV y u) (rx : RelV x v) (fy : flatV y = true) (fx : flatV x = true) : SeqAt.EqAt A s u v (eqV y x) := by
  cases y with
  | non =>
    cases ry
    cases x with
    | non => cases rx; exact SeqAt.EqAt.same _
    | bl b => cases rx; exact SeqAt.EqAt.none_bool b
    | int b => obtain ⟨t, rfl⟩ := rx; exact SeqAt.EqAt.none_int b t
    | str b => obtain ⟨t, rfl⟩ := rx; exact SeqAt.EqAt.none_str b t
    | _ => exact absurd (show false = true from fx) Bool.false_ne_true
  | bl a =>
    cases ry
    cases x with
    | non => cases rx; exact SeqAt.EqAt.bool_none a
    | bl b => cases rx; exact SeqAt.EqAt.bool_bool a b
    | int b => obtain ⟨t, rfl⟩ := rx; exact SeqAt.EqAt.bool_int a b t
    | str b => obtain ⟨t, rfl⟩ := rx; exact SeqAt.EqAt.bool_str a b t
    | _ => exact absurd (show false = true from fx) Bool.false_ne_true
  | int a =>
    obtain ⟨t', rfl⟩ := ry
    cases x with
    | non => cases rx; exact SeqAt.EqAt.int_none a t'
    | bl b => cases rx; exact SeqAt.EqAt.int_bool a t' b
    | int b => obtain ⟨t, rfl⟩ := rx; exact SeqAt.EqAt.int_int a t' b t
    | str b => obtain ⟨t, rfl⟩ := rx; exact SeqAt.EqAt.int_str a t' b t
    | _ => exact absurd (show false = true from fx) Bool.false_ne_true
  | str a =>
    obtain ⟨t', rfl⟩ := ry
    cases x with
    | non => cases rx; exact SeqAt.EqAt.str_none a t'
    | bl b => cases rx; exact SeqAt.EqAt.str_bool a t' b
    | int b => obtain ⟨t, rfl⟩ := rx; exact SeqAt.EqAt.str_int a t' b t
    | str b => obtain ⟨t, rfl⟩ := rx; exact SeqAt.EqAt.str_str a t' b t
    | _ => exact absurd (show false = true from fx) Bool.false_ne_true
  | _ => exact absurd (show false = true from fy) Bool.false_ne_true
def eqU (x : V) (u : Value) : Bool := match u with
  | .none => eqV .non x
  | .bool b => eqV (.bl b) x
  | .int i _ => eqV (.int i) x
  | .str z _ => eqV (.str z) x
  | _ => false
theorem eqU_of {x y : V} {u : Value} (r : RelV y u) (f : flatV y = true) : eqU x u = eqV y x := by
  cases y with
  | non => cases r; rfl
  | bl b => cases r; rfl
  | int i => obtain ⟨t, rfl⟩ := r; rfl
  | str z => obtain ⟨t, rfl⟩ := r; rfl
  | _ => exact absurd (show false = true from f) Bool.false_ne_true
theorem any_eqU {x : V} : ∀ {xs : List V} {us : List Value}, Vals xs us → xs.all flatV = true → us.any (eqU x) = xs.any fun y => eqV y x
  | _, _, .nil, _ => rfl
  | y :: xs, u :: us, .cons r t, f => by
    rw [List.all_cons, Bool.and_eq_true] at f
    rw [List.any_cons, List.any_cons, eqU_of r f.1, any_eqU t f.2]
theorem mem_eqAt {A : Around} {s : Shared} {x : V} {v : Value} (rx : RelV x v) (fx : flatV x = true) : ∀ {xs : List V} {us : List Value}, Vals xs us → xs.all flatV = true → ∀ u ∈ us, SeqAt.EqAt A s u v (eqU x u)
  | _, _, .nil, _ => fun u hu => by cases hu
  | y :: xs, u :: us, .cons r t, f => fun u' hu => by
    rw [List.all_cons, Bool.and_eq_true] at f
    rcases List.mem_cons.mp hu with rfl | hu
    · rw [eqU_of r f.1]; exact eqAt_V r rx f.1 fx
    · exact mem_eqAt rx fx t f.2 u' hu
def inV (x : V) (xs : List V) : Bool := xs.any fun y => eqV y x
def rIn (K : PySem.W.Frag) (neg : Bool) : R2 := fun x y H Q => ∃ p xs, y = .ref p ∧ (SqL K H p xs ∨ SqT K H p xs) ∧ flatV x = true ∧ xs.all flatV = true ∧ Q (.bl (if neg then !inV x xs else inV x xs)) H
theorem op_in_seq : OpR X (compareOp .In) (rIn X.K false) := by
  intro pins s σ H x y v u Q I rx ry h
  obtain ⟨p, xs, rfl, hq, fx, fs, q⟩ := h
  cases ry
  rcases hq with hq | hq
  · obtain ⟨its, r, pl, hz⟩ := I.list hq
    refine SeqAt.in_listAt (eqU x) pl.isList (fun w hw => mem_eqAt rx fx r fs w (by simpa using hw)) ⟨.bl _, H, I, rfl, ?_⟩
    rw [show its.toArray.any (eqU x) = its.any (eqU x) by simp, any_eqU r fs]
    exact q
  · obtain ⟨its, r, pl, hz⟩ := I.tuple hq
    refine SeqAt.in_tupleAt (eqU x) pl (fun w hw => mem_eqAt rx fx r fs w (by simpa using hw)) ⟨.bl _, H, I, rfl, ?_⟩
    rw [show its.toArray.any (eqU x) = its.any (eqU x) by simp, any_eqU r fs]
    exact q
theorem op_notIn_seq : OpR X (compareOp .NotIn) (rIn X.K true) := by
  intro pins s σ H x y v u Q I rx ry h
  obtain ⟨p, xs, rfl, hq, fx, fs, q⟩ := h
  cases ry
  rcases hq with hq | hq
  · obtain ⟨its, r, pl, hz⟩ := I.list hq
    refine SeqAt.notIn_listAt (eqU x) pl.isList (fun w hw => mem_eqAt rx fx r fs w (by simpa using hw)) ⟨.bl _, H, I, rfl, ?_⟩
    rw [show its.toArray.any (eqU x) = its.any (eqU x) by simp, any_eqU r fs]
    exact q
  · obtain ⟨its, r, pl, hz⟩ := I.tuple hq
    refine SeqAt.notIn_tupleAt (eqU x) pl (fun w hw => mem_eqAt rx fx r fs w (by simpa using hw)) ⟨.bl _, H, I, rfl, ?_⟩
    rw [show its.toArray.any (eqU x) = its.any (eqU x) by simp, any_eqU r fs]
    exact q
theorem call_len_seq : CallR X (.builtin "len") (fun xs H Q => ∃ p ys, xs = [.ref p] ∧ (SqL X.K H p ys ∨ SqT X.K H p ys) ∧ Q (.int ys.length) H) := by
  intro pins s σ H xs us Q I r h
  obtain ⟨p, ys, rfl, hq, q⟩ := h
  obtain ⟨u, rfl, rx⟩ := vals1 r
  cases rx
  have hn := line63
  rcases hq with hq | hq
  · obtain ⟨its, r', pl, hz⟩ := I.list hq
    have hlen := r'.length
    exact Calls.call_len_list pl.isList (by simp only [List.size_toArray] <;> omega) ⟨.int ys.length, H, I.tok _, ⟨s.toks + 1, by rw [List.size_toArray, hlen]⟩, q⟩
  · obtain ⟨its, r', pl, hz⟩ := I.tuple hq
    have hlen := r'.length
    exact len_tuple pl (by simp only [List.size_toArray] <;> omega) ⟨.int ys.length, H, I.tok _, ⟨s.toks + 1, by rw [List.size_toArray, hlen]⟩, q⟩
theorem call_list_of : CallR X (.type "list") (fun xs H Q => ∃ p ys, xs = [.ref p] ∧ (SqL X.K H p ys ∨ SqT X.K H p ys) ∧ ∀ l, H l = none → Q (.ref l) (upd H l (.lst ys))) := by
  intro pins s σ H xs us Q I r h
  obtain ⟨p, ys, rfl, hq, q⟩ := h
  obtain ⟨u, rfl, rx⟩ := vals1 r
  cases rx
  have fin : ∀ (its : List Value), Vals ys its → ys.length ≤ sizeLine → ∀ (h' : Heap) (c' : Nat), (∀ b o', s.heap.get? b = some o' → h'.get? b = some o') →
      h'.get? s.heap.objs.size = some { cls := .type "list", dict := none, data := .seq its.toArray c', slots := #[] } → EP X pins σ Q (.ref s.heap.objs.size) { s with heap := h' } := fun its r' hz h' c' kp e =>
    ⟨.ref s.heap.objs.size, _, I.laid (t' := s.toks) kp (Nat.le_refl _) (show ObjOk X.prog X.w _ h' _ (.lst ys) from ⟨hz, its, c', r', e⟩), rfl, q _ (I.hok.fresh (Nat.le_refl _))⟩
  rcases hq with hq | hq
  · obtain ⟨its, r', pl, hz⟩ := I.list hq
    have hlen := r'.length
    obtain ⟨o, ho, hc, n, hd⟩ := pl.isList
    exact call_list_seq p (.inl rfl) ho hc hd (fun h' c' kp e => fin its r' hz h' c' kp e) (by simp only [List.size_toArray] <;> omega)
  · obtain ⟨its, r', pl, hz⟩ := I.tuple hq
    have hlen := r'.length
    obtain ⟨o, ho, hc, n, hd⟩ := pl
    exact call_list_seq p (.inr rfl) ho hc hd (fun h' c' kp e => fin its r' hz h' c' kp e) (by simp only [List.size_toArray] <;> omega)
def tyV (K : PySem.W.Frag) (T : String) (x : V) (H : Hp) : Prop := match x with
  | .str _ => T = "str"
  | .int _ => T = "int"
  | .ref p => (T = "list" ∧ ∃ xs, SqL K H p xs) ∨ (T = "tuple" ∧ ∃ o, K.lookup p = some o ∧ o.cls = .type "tuple" ∧ o.dict = none) ∨
      (T = "dict" ∧ ((∃ kvs, H p = some (.dK kvs)) ∨ ∃ kvs, H p = some (.dT kvs))) ∨ (T = "set" ∧ ∃ S n, H p = some (.set S n))
  | _ => False
theorem tyV_is {pins : List (Addr × Obj)} {σ : St} {H : Hp} {s : Shared} {T : String} {x : V} {v : Value} (I : Inv X pins σ H s) (r : RelV x v) (ty : tyV X.K T x H) :
    s.TypeIs v T ∧ ∀ a, v = .ref a → ∃ ob, s.heap.get? a = some ob ∧ ob.dict = none := by
  cases x with
  | str z =>
    obtain ⟨t, rfl⟩ := r
    cases (show T = "str" from ty)
    exact ⟨typeIs_str s z t, fun _ e => nomatch e⟩
  | int i =>
    obtain ⟨t, rfl⟩ := r
    cases (show T = "int" from ty)
    exact ⟨typeIs_int s i t, fun _ e => nomatch e⟩
  | ref p =>
    cases r
    rcases ty with ⟨rfl, xs, hq⟩ | ⟨rfl, o, hk, hc, hd⟩ | ⟨rfl, hk⟩ | ⟨rfl, S, n, hk⟩
    · obtain ⟨its, _, pl, _⟩ := I.list hq
      refine ⟨pl.isList.typeIs, fun a e => ?_⟩
      cases e
      obtain ⟨o, n, e, c, hd, _⟩ := pl
      exact ⟨o, e, hd⟩
    · refine ⟨⟨o, I.kIn p o hk, hc⟩, fun a e => ?_⟩
      cases e
      exact ⟨o, I.kIn _ o hk, hd⟩
    · have z : ∃ o, s.heap.get? p = some o ∧ o.ExactDict := by
        rcases hk with ⟨kvs, hk⟩ | ⟨kvs, hk⟩
        · obtain ⟨_, _, _, _, o, _, _, e, ex, _⟩ := I.hok p _ hk
          exact ⟨o, e, ex⟩
        · obtain ⟨_, _, _, _, o, _, _, e, ex, _⟩ := I.hok p _ hk
          exact ⟨o, e, ex⟩
      obtain ⟨o, e, ex⟩ := z
      refine ⟨⟨o, e, ex.1⟩, fun a e2 => ?_⟩
      cases e2
      exact ⟨o, e, ex.2.1⟩
    · obtain ⟨o, _, _, _, e, ex, _⟩ := I.hok p _ hk
      refine ⟨⟨o, e, ex.1⟩, fun a e2 => ?_⟩
      cases e2
      exact ⟨o, e, ex.2.1⟩
  | _ => exact False.elim ty
def tBM0 (K : PySem.W.Frag) (T : String) (r : V → List V → Hp → VK → Prop) (to : TE) : TE := fun σ H Q => to σ H fun x H1 => tyV K T x H1 ∧ r x [] H1 Q
def tBM (K : PySem.W.Frag) (T : String) (r : V → List V → Hp → VK → Prop) (to : TE) (t : TA) : TE := fun σ H Q => to σ H fun x H1 => tyV K T x H1 ∧ t σ H1 fun xs H2 => r x xs H2 Q
variable {o e : Expr} {es : List Expr} {to : TE} {t : TA} {name : Str} {apos cpos : Pos} {T id : String} {r : V → List V → Hp → VK → Prop}
theorem pe_bm0 (pa : PlainAttrs T) (slot : Slot T name id) (hty : typeOf (.builtin id) = pure (.type "method_descriptor")) (hm : MtR X id r) (ho : PE X o to)
    (hbase : attributeBase o name X.env (eval o X.env) = eval o X.env := by rfl) (hline : (apos.endLine == cpos.line) = true := by rfl) : PE X (.Call (.Attribute o name apos) [] [] cpos) (tBM0 X.K T r to) := by
  intro pins s σ H Q I h
  refine wpAny_Call_method0_late hbase hline (thn (ho pins s σ H _ I h) fun v s1 ⟨x, H1, I1, r1, ty, q1⟩ => ?_)
  obtain ⟨h1, h2⟩ := tyV_is I1 r1 ty
  exact ⟨T, id, pa, slot, hty, h1, h2, Calls.callWith_builtin rfl (PySem.evalArgs_none (hm pins s1 σ H1 x [] v [] Q I1 r1 .nil q1))⟩
theorem pe_bm (pa : PlainAttrs T) (slot : Slot T name id) (hty : typeOf (.builtin id) = pure (.type "method_descriptor")) (hm : MtR X id r) (ho : PE X o to) (ha : PA X (e :: es) t)
    (hbase : attributeBase o name X.env (eval o X.env) = eval o X.env := by rfl)
    (hfew : ((backTo cpos (starEach (e :: es) X.env)).all (fun x => !x.1) && (backToKw cpos (keywordEach [] X.env)).all (fun x => x.1.isSome)
      && decide ((e :: es).length + ([] : List Keyword).length + (if ([] : List Keyword).isEmpty then 0 else 1) < 30)) = true := by rfl)
    (hline : (apos.endLine == cpos.line) = true := by rfl) (hs : starEach (e :: es) X.env = (false, eval e X.env) :: starEach es X.env := by rfl) (hplain : (backTo cpos (starEach es X.env)).any (·.1) = false := by rfl) :
    PE X (.Call (.Attribute o name apos) (e :: es) [] cpos) (tBM X.K T r to t) := by
  intro pins s σ H Q I h
  refine wpAny_Call_method_late hbase hfew hline rfl (thn (ho pins s σ H _ I h) fun v s1 ⟨x, H1, I1, r1, ty, q1⟩ => ?_)
  obtain ⟨h1, h2⟩ := tyV_is I1 r1 ty
  refine ⟨T, id, pa, slot, hty, h1, h2, ?_⟩
  have hA := ha cpos pins s1 σ H1 _ I1 q1
  rw [hs] at hA ⊢
  refine Calls.callWith_builtin (by show (false || (backTo cpos (starEach es X.env)).any (·.1)) = false; rw [hplain] <;> rfl) (Calls.evalArgs_plain ?_)
  exact thn hA fun us s2 ⟨vs, H2, I2, r2, q2⟩ => hm pins s2 σ H2 x vs v us Q I2 r1 r2 q2
end
end L2
namespace L2
open PySem PySem.Spec PyProof.Rows
def MtM (X : Cx) (id : String) (r : V → List V → Hp → VK → Prop) : Prop :=
  ∀ (pins : List (Addr × Obj)) (s : Shared) (σ : St) (H : Hp) (x : V) (xs : List V) (v : Value) (us : List Value) (Q : VK), Inv X pins σ H s → RelV x v → Vals xs us → r x xs H Q →
    wpAny (model X.prog X.w) X.A (call (.builtin id) (v :: us)) (EP X pins σ Q) X.xe s
theorem Vals.one : ∀ {x : V} {us : List Value}, Vals [x] us → ∃ u, us = [u] ∧ RelV x u
  | _, _, .cons r .nil => ⟨_, rfl, r⟩
theorem Vals.rep {xs : List V} {us : List Value} (h : Vals xs us) : ∀ k : Nat, Vals (List.replicate k xs).flatten (List.replicate k us).flatten
  | 0 => .nil
  | k + 1 => by
    rw [List.replicate_succ, List.replicate_succ, List.flatten_cons, List.flatten_cons]
    exact Vals.append h (Vals.rep h k)
theorem foldl_rep (its : List Value) : ∀ (k : Nat) (acc : List Value),
    List.foldl (fun x1 x2 => x1 ++ x2) acc.toArray (List.replicate k its.toArray) = (acc ++ (List.replicate k its).flatten).toArray
  | 0, acc => by simp
  | k + 1, acc => by
    have e : acc.toArray ++ its.toArray = (acc ++ its).toArray := by simp
    have e2 : (acc ++ its) ++ (List.replicate k its).flatten = acc ++ (List.replicate (k + 1) its).flatten := by
      rw [List.replicate_succ, List.flatten_cons, List.append_assoc]
    rw [← e2, ← foldl_rep its k (acc ++ its), ← e, List.replicate_succ, List.foldl_cons]
section
variable {X : Cx} {pins : List (Addr × Obj)} {σ : St} {H : Hp} {s : Shared} {l b : Addr} {xs ys zs : List V}
theorem Inv.lset {its its' : List Value} {n : Nat} {f : Array Value → Array Value} {t' : Nat} (I : Inv X pins σ H s) (hH : H l = some (.lst xs))
    (e : s.heap.get? l = some { cls := .type "list", data := .seq its.toArray n }) (hf : f its.toArray = its'.toArray) (hv : Vals ys its') (hz : ys.length ≤ sizeLine) :
    Inv X pins σ (upd H l (.lst ys)) { s with heap := s.heap.update l (Obj.mapSeq f), toks := t' } := by
  have q := PySem.IsL.update e f
  rw [hf] at q
  refine I.write (x := l) (e := l) (by rw [hH]; exact trivial) (.inl rfl) (fun b' u hb hu => (Heap.get?_update_other s.heap (Obj.mapSeq f) (Ne.symm hb)).trans hu) ⟨_, q⟩ ?_
  exact ⟨hz, its', _, hv, q⟩
theorem Inv.lnew {its : List Value} {t' : Nat} (I : Inv X pins σ H s) (hv : Vals ys its) (hz : ys.length ≤ sizeLine) :
    Inv X pins σ (upd H s.heap.objs.size (.lst ys)) { s with heap := s.heap.push { cls := .type "list", data := .seq its.toArray }, toks := t' } :=
  I.laid (fun _ _ q => Heap.get?_push_of_some _ q) (Nat.le_refl _) ⟨hz, its, 0, hv, Heap.get?_push_size _ rfl⟩
theorem Inv.fresh (I : Inv X pins σ H s) : H s.heap.objs.size = none := I.hok.fresh (Nat.le_refl _)
theorem Inv.lstM (I : Inv X pins σ H s) (hH : H l = some (.lst xs)) : xs.length ≤ sizeLine ∧ ∃ (its : List Value) (n : Nat), Vals xs its ∧ xs.length = its.length ∧ s.heap.get? l = some { cls := .type "list", data := .seq its.toArray n } := by
  obtain ⟨z, its, n, r, e⟩ := I.hok l _ hH
  exact ⟨z, its, n, r, r.length, e⟩
theorem notLongL {n : Nat} (h : n ≤ sizeLine) : Builtin.List.listTooLong n = false := by
  unfold Builtin.List.listTooLong
  exact decide_eq_false (by omega)
end
section
variable {X : Cx}
def rAppend : V → List V → Hp → VK → Prop := fun x vs H Q => ∃ l xs y, x = .ref l ∧ vs = [y] ∧ H l = some (.lst xs) ∧ xs.length < sizeLine ∧ Q .non (upd H l (.lst (xs ++ [y])))
theorem mt_append : MtM X "list.append" rAppend := by
  intro pins s σ H x vs v us Q I rx rv h
  obtain ⟨l, xs, y, rfl, rfl, hH, hz, q⟩ := h
  cases rx
  obtain ⟨u, rfl, ru⟩ := rv.one
  obtain ⟨z, its, n, r, hl, e⟩ := I.lstM hH
  refine call_meets F.slot_list_append ⟨_, e, rfl⟩ F.entry_list_append (F.args_list_append_2 _ _) (PySem.list_append l its.toArray n u (by rw [List.size_toArray]; omega)) ⟨e, ?_⟩
  refine ⟨.non, _, I.lset (its' := its ++ [u]) hH e (by simp) (r.append (.cons ru .nil)) ?_, rfl, q⟩
  rw [List.length_append, List.length_singleton]
  omega
def rCat : R2 := fun x y H Q => ∃ l b xs zs, x = .ref l ∧ y = .ref b ∧ H l = some (.lst xs) ∧ H b = some (.lst zs) ∧ xs.length + zs.length ≤ sizeLine ∧ ∀ p, H p = none → Q (.ref p) (upd H p (.lst (xs ++ zs)))
theorem op_cat : OpR X (binaryOp .Add) rCat := by
  intro pins s σ H x y v u Q I rx ry h
  obtain ⟨l, b, xs, zs, rfl, rfl, hH, hB, hz, q⟩ := h
  cases rx
  cases ry
  obtain ⟨z, its, n, r, hl, e⟩ := I.lstM hH
  obtain ⟨z2, its2, n2, r2, hl2, e2⟩ := I.lstM hB
  refine PySem.P.add_list e e2 ?_ (by rw [List.size_toArray, List.size_toArray]; omega)
  have ea : its.toArray ++ its2.toArray = (its ++ its2).toArray := by simp
  rw [ea]
  exact ⟨.ref _, _, I.lnew (t' := s.toks) (r.append r2) (by rw [List.length_append]; omega), rfl, q _ I.fresh⟩
def rRep : R2 := fun x y H Q => ∃ l k xs, x = .ref l ∧ y = .int k ∧ H l = some (.lst xs) ∧ -(2 ^ 63) ≤ k ∧ k < 2 ^ 63 ∧ xs.length * k.toNat ≤ sizeLine ∧
  ∀ p, H p = none → Q (.ref p) (upd H p (.lst (List.replicate k.toNat xs).flatten))
theorem len_rep {α : Type} (xs : List α) (k : Nat) : (List.replicate k xs).flatten.length = k * xs.length := by
  induction k with
  | zero => simp
  | succ k ih => rw [List.replicate_succ, List.flatten_cons, List.length_append, ih, Nat.succ_mul, Nat.add_comm]
theorem op_rep : OpR X (binaryOp .Mult) rRep := by
  intro pins s σ H x y v u Q I rx ry h
  obtain ⟨l, k, xs, rfl, rfl, hH, h1, h2, hz, q⟩ := h
  cases rx
  obtain ⟨t, rfl⟩ := ry
  obtain ⟨z, its, n, r, hl, e⟩ := I.lstM hH
  have hlen : its.toArray.size * k.toNat ≤ sizeLine := by rw [List.size_toArray, ← hl]; exact hz
  have hcap : ¬ its.toArray.size * k.toNat > (2 ^ 63 - 1) / 8 := by
    have : (sizeLine : Nat) ≤ (2 ^ 63 - 1) / 8 := by decide
    omega
  have hfit : ¬ (!Builtin.List.listFitsIndex k) = true := by
    rw [fitsIndex_both h1 h2]
    exact Bool.false_ne_true
  have hlong : ¬ Builtin.List.listTooLong (its.toArray.size * k.toNat) = true := by
    rw [notLongL hlen]
    exact Bool.false_ne_true
  have hnew : List.foldl (fun x1 x2 => x1 ++ x2) #[] (List.replicate (if its.toArray.isEmpty = true then 0 else k.toNat) its.toArray) = (List.replicate k.toNat its).flatten.toArray := by
    have f0 : ∀ m : Nat, List.foldl (fun x1 x2 => x1 ++ x2) #[] (List.replicate m its.toArray) = (List.replicate m its).flatten.toArray := fun m => by
      have := foldl_rep its m []
      rw [List.nil_append] at this
      exact this
    rw [f0]
    cases its with
    | nil => simp
    | cons a r' => rw [if_neg (by simp)]
  refine wpAny_binaryOp_repeat_ref (T := "list") (U := "int") (by decide) ⟨_, e, rfl⟩ (fun s' => typeIs_int s' k t) noFill_list_mul F.fills_int_mul F.slot_int_rmul repeat_list F.slot_int_index.lookup
    (call_meets F.slot_int_rmul (typeIs_int s k t) F.entry_int_rmul (F.args_int_rmul_2 _ _) (int___rmul___int_list k t l its.toArray n)
      ⟨e, rfl, ⟨_, e, rfl⟩, call_meets F.slot_list_mul ⟨_, e, rfl⟩ F.entry_list_mul (F.args_list_mul_2 _ _) (AutoListH.list___mul___list_int_3 l its.toArray n k t hfit hcap hlong) ⟨e, ?_⟩⟩)
  rw [hnew]
  exact ⟨.ref _, _, I.lnew (t' := s.toks) (r.rep k.toNat) (by rw [len_rep, Nat.mul_comm]; exact hz), rfl, q _ I.fresh⟩
end
section
variable {prog : Program} {w : World} {A : Around} {E : Value → Shared → Prop} {s : Shared}
end
section
variable {X : Cx}
end
end L2
namespace Att
open PySem PySem.W PySem.Calls PyProof.Rows
theorem ints_of_wellAll {P : Params} {h : Heap} : ∀ (ns : List Int) (vs : List Value), WellAll P h vs (ns.map WData.int) → IntsAre vs ns := by
  intro ns
  induction ns with
  | nil =>
    intro vs w
    rw [List.map_nil] at w
    cases w
    exact .nil
  | cons n ns ih =>
    intro vs w
    rw [List.map_cons] at w
    cases w with
    | cons a b =>
      cases a
      exact .cons _ _ (ih _ b)
theorem script_of {l : OpenLaw} {n : Nat} (hn : l.most = some n) {P : Params} {h : Heap} {args : List WData} {vals : List Value}
    (hpre : l.row.toRowW.claim.pre args = true) (hwl : WellAll P h vals args) :
    ∃ a vs ns, vals = [Value.ref a] ∧ args = [WData.list (ns.map WData.int)] ∧ h.get? a = some { cls := .type "list", data := .seq vs.toArray } ∧ IntsAre vs ns ∧ ns.length ≤ n := by
  have hsh : WShape.hasAll [] args [.list .int] = true := (pre_splitW hpre).1
  have hc : l.pre.holds [] { args := args } = true := (pre_splitW hpre).2
  obtain ⟨d, r, rfl, h1, h2⟩ := hasAllW_cons hsh
  obtain rfl := hasAllW_nil h2
  obtain ⟨xs, rfl, h3⟩ := hasW_list h1
  obtain ⟨ns, rfl⟩ := items_int h3
  have hlen : ns.length ≤ n := by
    unfold OpenLaw.pre at hc
    have h4 : (WTm.not (.lt (.lit (.int (n : Int))) (.len (.arg 0)))).holds [] { args := [.list (ns.map .int)] } = true := by
      have h4 := (holds_andW hc).1
      rw [hn] at h4
      exact h4
    have h5 := condW_of h4 (w_not (w_lt w_lit (w_len_list (w_arg rfl))))
    rw [List.length_map] at h5
    refine Nat.le_of_not_lt fun q => ?_
    have q' : (n : Int) < ((ns.length : Nat) : Int) := by omega
    first
      | (rw [decide_eq_true q'] at h5; exact absurd h5 (by decide))
      | (simp at h5; omega)
  cases hwl with
  | cons w1 w2 =>
    cases w2
    cases w1 with
    | list ho hall => exact ⟨_, _, ns, rfl, rfl, ho, ints_of_wellAll ns _ hall, hlen⟩
theorem post_true (l : OpenLaw) (args : List WData) : l.row.toRowW.claim.post args (.bool true) args = true :=
  postW_of (r := l.row.toRowW) (X := (true == true))
    (show WShape.has [] (.bool true) .bool = true by first | rfl | decide | simp [WShape.has, WShape.arms, WShape.armsAll])
    (show (WTm.eq .res (.lit (.bool true))).value [] { args := args, res := some (.bool true), after := args } = some (.bool (true == true)) from w_eq_bool (w_res rfl) w_lit) rfl
theorem attach_call {l : OpenLaw} {n : Nat} {q : Program} {loose : List Str} {XP : (Str → Option Value) → Heap → Prop} {YP : World → Heap → Prop} {d : DefRec}
    (hn : l.most = some n) (hdf : d.params.defaults = [])
    (call : ∀ (w : World) (s₀ s₁ : Shared) (mg mb : Str → Option Value) (fa : Addr) (o : Obj) (pm cd doc : Value) (a : Addr) (vs : List Value) (ns : List Int),
      Ground q loose [] XP w s₀ mg mb s₁.heap → YP w s₁.heap →
      s₁.heap.get? fa = some o → o.data = .func (docDef d.name d.params d.body d.scope pm cd doc) → s₁.heap.CodeRec cd d.name → mg d.name = some (.ref fa) →
      s₁.heap.get? a = some { cls := .type "list", data := .seq vs.toArray } → IntsAre vs ns → ns.length ≤ n → s₁.gens = #[] →
      codeAny (model l.prog w) callerA (.call (.ref fa) ⟨[.ref a], []⟩) (fun r s' => r = .ok (.ret (.bool true)) ∧ OldK s₁.heap s'.heap ∧ s'.os = s₁.os ∧ AllBare s'.gens) s₁) :
    WalkO q loose XP YP l.row.toRowW d [] (fun f vs => PySem.call f vs) := by
  intro w s₀ s₁ mg mb G Y fa o pm cd doc dV kV ho hd hcd hD hmg hg args vals as hpre hlay hrd hwl hlo
  obtain rfl : dV = .none := Dflts.none hD hdf
  obtain rfl : kV = .none := Dflts.noKw hD
  obtain ⟨a, vs, ns, rfl, rfl, hobj, hints, hlen⟩ := script_of hn hpre hwl
  refine enter_call (codeAny_mono (call w s₀ s₁ mg mb fa o pm cd doc a vs ns G Y ho (fd_plain hd) hcd hmg hobj hints hlen hg) fun r s' hq => ?_)
  obtain ⟨rfl, h2, h3, h4⟩ := hq
  exact ⟨.inl ⟨.bool true, .bool true, [], rfl, fun _ => rfl, .bool true, post_true l _, fun _ => ⟨List.Pairwise.nil, fun _ hm => (nomatch hm)⟩⟩, h2, h3, h4⟩
section
variable {prog : Program} {w : World} {A : Around} {E : Value → Shared → Prop} {s : Shared} {K : Frag}
end
end Att
namespace L2
open PySem PySem.Spec PyProof.Rows
theorem vals_ints : ∀ {vs : List Value} {ns : List Int}, IntsAre vs ns → Vals (ns.map V.int) vs
  | _, _, .nil => .nil
  | _, _, .cons n t h => .cons ⟨t, rfl⟩ (vals_ints h)
def Only (H : Hp) : Prop := ∀ b, H b = none ∨ ∃ o xs, H b = some (.frz o (.lst xs))
theorem law_call {P : Program} {w : World} {K : PySem.W.Frag} {mg mb : Str → Option Value} {CX : CXT} {k : Nat} {fa a : Addr} {fd : FuncData} {x : Str} {sp : Sp} {s₁ : Shared} {vs : List Value} {ns : List Int}
    (KX : K.In s₁.heap) (hns : s₁.heap.Ns mainGlobals mg) (hb : s₁.heap.Ns builtinsNs mb) (hbb : ∀ x : Str, x ≠ "__name__" → mb x = bootBuiltins x) (hlim : s₁.heap.NoLimit) (hg : s₁.gens = #[])
    (ha : s₁.heap.get? a = some { cls := .type "list", data := .seq vs.toArray }) (hi : IntsAre vs ns) (hl : ns.length ≤ sizeLine) (hr : Room k callerA)
    (F : ∀ base : Heap, K.In base → base.Ns mainGlobals mg → FnOk P w K mg base CX k fa fd [x] sp) (hbind : ∀ (s : Shared) (u : Value), BindsTo s fd ⟨[u], []⟩ [(x, u)])
    (hsp : ∀ H : Hp, Only H → SqL K H a (ns.map V.int) → sp [.ref a] H (fun v _ => v = .bl true) fun _ _ _ => False)
    (hCX : ∀ H e s', CX [] H s₁ (fun _ _ _ => False) e s' → False) :
    codeAny (model P w) callerA (.call (.ref fa) ⟨[.ref a], []⟩) (fun r s' => r = .ok (.ret (.bool true)) ∧ OldK s₁.heap s'.heap ∧ s'.os = s₁.os ∧ AllBare s'.gens) s₁ := by
  have rv := vals_ints hi
  have lenV := hi.length
  have core : ∀ H : Hp, Only H → SqL K H a (ns.map V.int) → HOk P w H s₁.heap → (∀ b, H b ≠ none → b = a) → (H a ≠ none → K.lookup a = none) →
      codeAny (model P w) callerA (.call (.ref fa) ⟨[.ref a], []⟩) (fun r s' => r = .ok (.ret (.bool true)) ∧ OldK s₁.heap s'.heap ∧ s'.os = s₁.os ∧ AllBare s'.gens) s₁ := by
    intro H hO hS hok hA hK
    have base_of : ∀ {b : Addr} {o : Obj}, s₁.heap.get? b = some o → H b = none → (hidT s₁.heap H).get? b = some o := fun e n => hidT_get e n
    have noA : ∀ {b : Addr} {o : Obj} {es : Array DictEntry} {ep : Nat}, s₁.heap.get? b = some o → o.data = .dict es ep → H b = none := fun {b o es ep} e d => by
      cases q : H b with
      | none => rfl
      | some u =>
        have e' : b = a := hA b (by rw [q]; simp)
        subst e'
        rw [ha] at e; cases e
        have d' : Data.seq vs.toArray _ = Data.dict es ep := d
        cases d'
    have nsK : ∀ {b : Addr} {m : Str → Option Value}, s₁.heap.Ns b m → (hidT s₁.heap H).Ns b m := fun {b m} ⟨o, es, ep, e, d, r⟩ => ⟨o, es, ep, base_of e (noA e d), d, r⟩
    have hKb : K.In (hidT s₁.heap H) := fun b o e => base_of (KX b o e) (by
      cases q : H b with
      | none => rfl
      | some u =>
        have e' : b = a := hA b (by rw [q]; simp)
        subst e'
        rw [hK (by rw [q]; simp)] at e; cases e)
    have hM : Mod K mg (hidT s₁.heap H) := ⟨hKb, nsK hns, ⟨mb, nsK hb, hbb⟩, let ⟨mc, h1, h2⟩ := hlim; ⟨mc, nsK h1, h2⟩⟩
    have e0 : Env0 P w K mg (hidT s₁.heap H) callerA [] s₁ H := ⟨rfl, hM, fun b o e => of_hidT e, Nat.le_of_eq (hidT_size _ _), trivial, fun b hb => absurd (show b ∈ ([] : List Addr) from hb) (by simp), hok, .of_eq hg⟩
    refine codeAny_mono ((F _ hKb (nsK hns)).run callerA [] s₁ H ⟨[.ref a], []⟩ [.ref a] [.ref a] _ _ hr e0 (hbind s₁ (.ref a)) (.cons rfl .nil) (hsp H hO hS)) fun r s' h => ?_
    cases r with
    | error e => exact (hCX H e s' h).elim
    | ok fl =>
      cases fl with
      | next => exact False.elim h
      | brk => exact False.elim h
      | cont => exact False.elim h
      | ret u =>
        obtain ⟨v, H', os, bare, un, hok', r', q⟩ := h
        have q' : v = .bl true := q
        subst q'
        obtain rfl : u = Value.bool true := r'
        refine ⟨rfl, OldK.of_keep fun b o e => ?_, os, bare⟩
        cases q : H b with
        | none => exact un.keep b o e q (by intro z; exact absurd (show b ∈ ([] : List Addr) from z) (by simp)) (by simp)
        | some u =>
          rcases hO b with z | ⟨ob, xs, z⟩
          · rw [q] at z; cases z
          · have z2 := un.frzs b ob _ z
            obtain ⟨e1, _⟩ := hok b _ z
            obtain ⟨e2, _⟩ := hok' b _ z2
            rw [e] at e1; cases e1
            exact e2
  cases hk : K.lookup a with
  | some o =>
    have e := KX a o hk
    rw [ha] at e
    cases e
    refine core (fun _ => none) (fun _ => .inl rfl) (.inr ⟨_, vs.toArray, _, hk, rfl, rfl, rfl, by rw [List.size_toArray, lenV]; exact hl, by simpa using rv⟩) (fun b u z => by have z' : (none : Option HO) = some u := z; cases z') (fun b z => absurd rfl z) fun z => absurd rfl z
  | none =>
    refine core (fun b => if b = a then some (.frz { cls := .type "list", data := .seq vs.toArray } (.lst (ns.map V.int))) else none) (fun b => ?_) (.inl (.inr ⟨{ cls := .type "list", data := .seq vs.toArray }, if_pos rfl⟩)) (fun b u z => ?_) (fun b z => ?_) fun _ => hk
    · by_cases hb : b = a
      · exact .inr ⟨_, _, if_pos hb⟩
      · exact .inl (if_neg hb)
    · by_cases hb : b = a
      · have z' := (if_pos hb).symm.trans z
        cases z'
        subst hb
        exact ⟨ha, by rw [List.length_map]; exact hl, vs, _, rv, ha⟩
      · have z' := (if_neg hb).symm.trans z
        cases z'
    · by_cases hb : b = a
      · exact hb
      · exact absurd (if_neg hb) z
end L2
namespace L2
open PySem PySem.Spec PyProof.Rows
theorem walk_of {l : PySem.W.OpenLaw} {n k : Nat} {q : Program} {loose : List Str} {XP : (Str → Option Value) → Heap → Prop} {YP : World → Heap → Prop} {d : DefRec} {K : Params → PySem.W.Frag} {CX : World → CXT} {sp : World → Sp} {x : Str}
    (hn : l.most = some n) (hn2 : n ≤ sizeLine) (hdf : d.params.defaults = []) (hr : Room k callerA)
    (hY : ∀ (w : World) (h : Heap), YP w h → (K w.params).In h)
    (F : ∀ (w : World) (mg : Str → Option Value) (fa : Addr) (h : Heap), (K w.params).In h → h.Ns mainGlobals mg → mg d.name = some (.ref fa) →
      ∃ fd : FuncData, (∀ (s : Shared) (u : Value), BindsTo s fd ⟨[u], []⟩ [(x, u)]) ∧
        ∀ base : Heap, (K w.params).In base → base.Ns mainGlobals mg → FnOk l.prog w (K w.params) mg base (CX w) k fa fd [x] (sp w))
    (hsp : ∀ (w : World) (H : Hp) (a : Addr) (ns : List Int), ns.length ≤ n → Only H → SqL (K w.params) H a (ns.map V.int) → sp w [.ref a] H (fun v _ => v = .bl true) fun _ _ _ => False)
    (hCX : ∀ (w : World) (H : Hp) (s : Shared) (e : Value) (s' : Shared), CX w [] H s (fun _ _ _ => False) e s' → False) :
    PySem.W.WalkO q loose XP YP l.row.toRowW d [] (fun f vs => PySem.call f vs) := by
  refine Att.attach_call hn hdf fun w s₀ s₁ mg mb fa o pm cd doc a vs ns G Y ho hd hcd hmg hobj hints hlen hg => ?_
  have KX := hY w _ Y
  obtain ⟨fd, hb, hF⟩ := F w mg fa _ KX G.T.g hmg
  exact law_call KX G.T.g G.T.b G.T.builtins G.T.nolimit hg hobj hints (Nat.le_trans hlen hn2) hr hF hb (fun H hO hS => hsp w H a ns hlen hO hS) fun H e s' => hCX w H s₁ e s'
theorem walk_ofK {l : PySem.W.OpenLaw} {n k : Nat} {q : Program} {loose : List Str} {XP : (Str → Option Value) → Heap → Prop} {YP : World → Heap → Prop} {d : DefRec} {K : Params → PySem.W.Frag} {CX : CXT} {sp : PySem.W.Frag → Sp} {x : Str}
    (hn : l.most = some n) (hn2 : n ≤ sizeLine) (hdf : d.params.defaults = []) (hr : Room k callerA)
    (hY : ∀ (w : World) (h : Heap), YP w h → (K w.params).In h)
    (F : ∀ (w : World) (mg : Str → Option Value) (fa : Addr) (h : Heap), (K w.params).In h → h.Ns mainGlobals mg → mg d.name = some (.ref fa) →
      ∃ fd : FuncData, (∀ (s : Shared) (u : Value), BindsTo s fd ⟨[u], []⟩ [(x, u)]) ∧
        ∀ base : Heap, (K w.params).In base → base.Ns mainGlobals mg → FnOk l.prog w (K w.params) mg base CX k fa fd [x] (sp (K w.params)))
    (hsp : ∀ (K : PySem.W.Frag) (H : Hp) (a : Addr) (ns : List Int), ns.length ≤ n → Only H → SqL K H a (ns.map V.int) → sp K [.ref a] H (fun v _ => v = .bl true) fun _ _ _ => False)
    (hCX : ∀ (H : Hp) (s : Shared) (e : Value) (s' : Shared), CX [] H s (fun _ _ _ => False) e s' → False) :
    PySem.W.WalkO q loose XP YP l.row.toRowW d [] (fun f vs => PySem.call f vs) :=
  walk_of (K := K) (CX := fun _ => CX) (sp := fun w => sp (K w.params)) hn hn2 hdf hr hY F (fun w H a ns h1 h2 h3 => hsp (K w.params) H a ns h1 h2 h3) fun _ H s e s' => hCX H s e s'
end L2
namespace L2
open PySem PySem.Spec PyProof.Rows
def inClass (s : Stmt) (j : Nat) : Stmt := match s with
  | .ClassDef _ _ _ body _ _ _ _ _ _ _ => body.getD j (.Pass ⟨0, 0, 0, 0⟩)
  | _ => .Pass ⟨0, 0, 0, 0⟩
def defArgs (s : Stmt) : Arguments := match s with
  | .FunctionDef _ a _ _ _ _ _ _ _ _ => a
  | _ => { posonlyargs := [], args := [], vararg := none, kwonlyargs := [], kw_defaults := [], kwarg := none, defaults := [] }
def defBody (s : Stmt) : List Stmt := match s with
  | .FunctionDef _ _ b _ _ _ _ _ _ _ => b
  | _ => []
def defScope (s : Stmt) : Scope := match s with
  | .FunctionDef _ _ _ _ _ _ sc _ _ _ => sc
  | _ => { kind := .function, names := [], isGenerator := false, isCoroutine := false }
abbrev CX0 : CXT := fun _ _ _ _ _ _ => False
abbrev E0 : XK := fun _ _ _ => False
theorem pass0 {X : Cx} : Passes CX0 X E0 := fun _ _ _ _ _ _ _ h => h.elim
structure Fun (K : PySem.W.Frag) (x qual : Str) (st : Stmt) (f : Addr) (fd : FuncData) : Prop where
  ex : ∃ (oc : Value) (od : Option Addr) (kV doc pm : Value) (an : Option Addr) (cdv ct : Value) (osl : Array (Option Value)),
    fd = PySem.W.fnOf x qual (defArgs st) (defBody st) (defScope st) .none kV doc pm an cdv ct ∧ K.lookup f = some ⟨oc, od, .func fd, osl⟩ ∧ PySem.W.codeIn K cdv qual = true
  kp : PySem.W.keepIn K (.ref f) = true
section
variable {P : Program} {w : World} {K : PySem.W.Frag} {mg : Str → Option Value} {base : Heap}
theorem Fun.ok {x qual : Str} {st : Stmt} {f : Addr} {fd : FuncData} {N ps : List Str} {k : Nat} {sp : Sp} (F : Fun K x qual st f fd) (S : FnScope N ps (defScope st)) (len : ∀ vs H Q E, sp vs H Q E → vs.length = ps.length)
    (hbody : ∀ (cdv : Value) (A : Around) (outer : List Env) (s : Shared) (H : Hp) (vs : List V) (Q : VK) (E : XK), Room k (A.deeper (envOfC qual (defScope st) s.heap.objs.size f cdv)) → sp vs H Q E →
      ∃ t, PSs (cxOf CX0 P w K mg base N qual (defScope st) f cdv A outer s H E).nox (defBody st) t ∧ t { nx := fun _ H' => Q .non H', rt := Q } (start N vs) H) : FnOk P w K mg base CX0 (k + 1) f fd ps sp := by
  obtain ⟨oc, od, kV, doc, pm, an, cdv, ct, osl, rfl, lk, hcd⟩ := F.ex
  refine fn_of lk hcd S len fun A outer s H vs Q E hr hsp => ?_
  obtain ⟨t, h, q⟩ := hbody cdv A outer s H vs Q E hr hsp
  exact ⟨t, h.nox, q⟩
theorem Fun.binds {x qual : Str} {st : Stmt} {f : Addr} {fd : FuncData} {ps : List Str} (F : Fun K x qual st f fd)
    (h : ∀ (kV doc pm : Value) (an : Option Addr) (cdv ct : Value) (us : List Value), us.length = ps.length → bindArgs (PySem.W.fnOf x qual (defArgs st) (defBody st) (defScope st) .none kV doc pm an cdv ct) ⟨us, []⟩ = pure (ps.zip us)) : Binds K fd ps [] := by
  obtain ⟨oc, od, kV, doc, pm, an, cdv, ct, osl, rfl, lk, hcd⟩ := F.ex
  exact .all (h kV doc pm an cdv ct)
theorem fun_mk {x qual : Str} {st : Stmt} {f : Addr} {oc : Value} {od an : Option Addr} {osl : Array (Option Value)} {kV doc pm cdv ct : Value} (l : K.lookup f = some ⟨oc, od, .func (PySem.W.fnOf x qual (defArgs st) (defBody st) (defScope st) .none kV doc pm an cdv ct), osl⟩)
    (c : PySem.W.codeIn K cdv qual = true) (k : PySem.W.keepIn K (.ref f) = true) : Fun K x qual st f (PySem.W.fnOf x qual (defArgs st) (defBody st) (defScope st) .none kV doc pm an cdv ct) := ⟨⟨oc, od, kV, doc, pm, an, cdv, ct, osl, rfl, l, c⟩, k⟩
end
theorem hu_of {A : Around} {k : Nat} (hr : Room k A) : A.units + 1 < cLine := Nat.lt_of_le_of_lt (Nat.add_le_add_left (by decide : 1 ≤ 64) _) hr.units
theorem small1000 {n : Nat} (h : n ≤ 1000) : n < sizeLine := Nat.lt_of_le_of_lt h (by decide)
section
variable {X : Cx}
theorem pv (i : Nat) {x : Str} {pos : Pos} (hN : X.N[i]? = some x := by rfl) (hv : Vis X.env.scope x := by first | exact Or.inl rfl | exact Or.inr (Or.inl rfl) | exact Or.inr (Or.inr rfl)) (hd : (x == ("__debug__" : Str)) = false := by decide)
    (hcd : (x == ("__classdict__" : Str)) = false := by decide) : PE X (.Name x pos) (tVar i) := pe_var hN hv hd hcd
end
theorem iteF {A B : Prop} (h : B) : if false = true then A else B := by
  rw [if_neg Bool.false_ne_true]
  exact h
theorem iteT {A B : Prop} (h : A) : if true = true then A else B := by
  rw [if_pos rfl]
  exact h
theorem ite2 {c A B : Prop} [Decidable c] (h1 : c → A) (h2 : ¬ c → B) : if c then A else B := by
  by_cases h : c
  · rw [if_pos h]
    exact h1 h
  · rw [if_neg h]
    exact h2 h
def Same (H H' : Hp) : Prop := ∀ b o, H b = some o → H' b = some o
theorem Same.refl (H : Hp) : Same H H := fun _ _ h => h
theorem Same.trans {H H1 H2 : Hp} (a : Same H H1) (b : Same H1 H2) : Same H H2 := fun c o h => b c o (a c o h)
theorem Same.free {H H' : Hp} (e : Same H H') {l : Addr} (h : H' l = Option.none) : H l = Option.none := by
  cases q : H l with
  | none => rfl
  | some o =>
    rw [e l o q] at h
    cases h
theorem Same.seq {K : PySem.W.Frag} {H H' : Hp} {a : Addr} {xs : List V} (e : Same H H') (h : SqL K H a xs) : SqL K H' a xs := by
  rcases h with (h | ⟨o, h⟩) | h
  · exact .inl (.inl (e _ _ h))
  · exact .inl (.inr ⟨o, e _ _ h⟩)
  · exact .inr h
end L2
namespace L2
open PySem PySem.Spec PyProof.Rows
section
variable {κ : Type} [DecidableEq κ]
def valV (kvs : List (κ × V)) (k : κ) : Option V := (kvs.find? fun kv => decide (kv.1 = k)).map (·.2)
def putK (kvs : List (κ × V)) (k : κ) (v : V) : List (κ × V) :=
  if (kvs.any fun kv => decide (kv.1 = k)) = true then kvs.map (fun kv => if kv.1 = k then (kv.1, v) else kv) else kvs ++ [(k, v)]
theorem valV_pos {p : κ × V} {r : List (κ × V)} {k : κ} (e : p.1 = k) : valV (p :: r) k = some p.2 := by simp [valV, List.find?_cons, e]
theorem valV_neg {p : κ × V} {r : List (κ × V)} {k : κ} (e : ¬ p.1 = k) : valV (p :: r) k = valV r k := by simp [valV, List.find?_cons, e]
theorem valV_any (k : κ) : ∀ kvs : List (κ × V), (kvs.any fun kv => decide (kv.1 = k)) = (valV kvs k).isSome
  | [] => rfl
  | p :: r => by
    rw [List.any_cons]
    by_cases e : p.1 = k
    · simp only [valV_pos e, decide_eq_true e, Bool.true_or, Option.isSome_some]
    · rw [valV_neg e, decide_eq_false e, Bool.false_or]; exact valV_any k r
theorem length_putK (kvs : List (κ × V)) (k : κ) (v : V) : (putK kvs k v).length ≤ kvs.length + 1 := by
  unfold putK
  split
  · rw [List.length_map]; omega
  · rw [List.length_append, List.length_cons, List.length_nil]; omega
theorem putK_new {kvs : List (κ × V)} {k : κ} (v : V) (h : valV kvs k = none) : putK kvs k v = kvs ++ [(k, v)] := by
  unfold putK
  rw [valV_any, h]
  exact if_neg (by decide)
theorem RelO.isSome_eq {o : Option V} {u : Option Value} (r : RelO o u) : o.isSome = u.isSome := by
  cases o with
  | none => cases u with
    | none => rfl
    | some _ => exact (show False from r).elim
  | some _ => cases u with
    | none => exact (show False from r).elim
    | some _ => rfl
theorem RelO.getD {o : Option V} {u : Option Value} {d : V} {d' : Value} (r : RelO o u) (rd : RelV d d') : RelV (o.getD d) (u.getD d') := by
  cases o with
  | none => cases u with
    | none => exact rd
    | some _ => exact (show False from r).elim
  | some _ => cases u with
    | none => exact (show False from r).elim
    | some _ => exact r
theorem KV.val {kvs : List (κ × V)} {vs : List (κ × Value)} (r : KV kvs vs) (k : κ) : RelO (valV kvs k) (valueAt vs k) := by
  unfold KV at r
  induction r with
  | nil => exact True.intro
  | @cons p q ps qs h t ih =>
    obtain ⟨h1, h2⟩ := h
    by_cases e : p.1 = k
    · have e' : q.1 = k := h1.symm.trans e
      have b : valueAt (q :: qs) k = some q.2 := by simp [valueAt, List.find?_cons, e']
      rw [valV_pos e, b]; exact h2
    · have e' : ¬ q.1 = k := fun z => e (h1.trans z)
      have b : valueAt (q :: qs) k = valueAt qs k := by simp [valueAt, List.find?_cons, e']
      rw [valV_neg e, b]; exact ih
theorem KV.any {kvs : List (κ × V)} {vs : List (κ × Value)} (r : KV kvs vs) (k : κ) : (kvs.any fun kv => decide (kv.1 = k)) = vs.any fun kv => decide (kv.1 = k) := by
  unfold KV at r
  induction r with
  | nil => rfl
  | cons h t ih => rw [List.any_cons, List.any_cons, ih, h.1]
theorem KV.repl {kvs : List (κ × V)} {vs : List (κ × Value)} (r : KV kvs vs) (k : κ) {y : V} {u : Value} (ry : RelV y u) :
    KV (kvs.map fun kv => if kv.1 = k then (kv.1, y) else kv) (vs.map fun kv => if kv.1 = k then (kv.1, u) else kv) := by
  unfold KV at r ⊢
  induction r with
  | nil => exact .nil
  | @cons p q ps qs h t ih =>
    rw [List.map_cons, List.map_cons]
    refine .cons ?_ ih
    obtain ⟨h1, h2⟩ := h
    by_cases e : p.1 = k
    · rw [if_pos e, if_pos (h1.symm.trans e)]; exact ⟨h1, ry⟩
    · rw [if_neg e, if_neg (fun z => e (h1.trans z))]; exact ⟨h1, h2⟩
theorem KV.put {kvs : List (κ × V)} {vs : List (κ × Value)} (r : KV kvs vs) (k : κ) {y : V} {u : Value} (ry : RelV y u) : KV (putK kvs k y) (stored vs k u) := by
  unfold putK stored
  rw [r.any k]
  by_cases e : (vs.any fun kv => decide (kv.1 = k)) = true
  · rw [if_pos e, if_pos e]; exact r.repl k ry
  · rw [if_neg e, if_neg e]; exact Paired.snoc r ⟨rfl, ry⟩
theorem KV.length {kvs : List (κ × V)} {vs : List (κ × Value)} (r : KV kvs vs) : kvs.length = vs.length := Paired.length r
end
theorem kV_is {P : Program} {w : World} {k : Key} {u : Value} (r : RelV (kV k) u) : (mixKind P w).is k u = true := by
  cases k with
  | inl i => obtain ⟨t, e⟩ := (show ∃ t, u = Value.int i t from r); subst e; exact mixKind_int P w i t
  | inr x => obtain ⟨t, e⟩ := (show ∃ t, u = Value.str x t from r); subst e; exact mixKind_str P w x t
theorem items_are {P : Program} {w : World} : ∀ {ks : List Key} {us : List Value}, Vals (ks.map kV) us → ItemsAre (mixKind P w) ks us
  | [], _, r => by rw [List.map_nil] at r; cases r; exact .nil
  | k :: ks, _, r => by
    rw [List.map_cons] at r
    cases r with
    | cons h t => exact .cons (kV_is h) (items_are t)
abbrev KT (H : Hp) : List (List Key × V) → List (List Key × Addr × Value) → Prop := Paired fun p q => p.1 = q.1 ∧ H q.2.1 = some (.tup (p.1.map kV)) ∧ RelV p.2 q.2.2
theorem KT.val {H : Hp} {kvs : List (List Key × V)} {xs : List (List Key × Addr × Value)} (r : KT H kvs xs) (k : List Key) : RelO (valV kvs k) ((atKey xs k).map (·.2)) := by
  induction r with
  | nil => exact True.intro
  | @cons p q ps qs h t ih =>
    obtain ⟨h1, _, h2⟩ := h
    by_cases e : p.1 = k
    · have e' : q.1 = k := h1.symm.trans e
      have b : atKey (q :: qs) k = some q.2 := by simp [atKey, List.find?_cons, e']
      rw [valV_pos e, b]; exact h2
    · have e' : ¬ q.1 = k := fun z => e (h1.trans z)
      have b : atKey (q :: qs) k = atKey qs k := by simp [atKey, List.find?_cons, e']
      rw [valV_neg e, b]; exact ih
theorem KT.repl {H : Hp} {kvs : List (List Key × V)} {xs : List (List Key × Addr × Value)} (r : KT H kvs xs) (k : List Key) {y : V} {u : Value} (ry : RelV y u) :
    KT H (kvs.map fun kv => if kv.1 = k then (kv.1, y) else kv) (xs.map (putAt k u)) := by
  induction r with
  | nil => exact .nil
  | @cons p q ps qs h t ih =>
    rw [List.map_cons, List.map_cons]
    refine .cons ?_ ih
    obtain ⟨h1, h2, h3⟩ := h
    unfold putAt
    by_cases e : p.1 = k
    · rw [if_pos e, if_pos (h1.symm.trans e)]; exact ⟨h1, h2, ry⟩
    · rw [if_neg e, if_neg (fun z => e (h1.trans z))]; exact ⟨h1, h2, h3⟩
theorem KT.put {H : Hp} {kvs : List (List Key × V)} {xs : List (List Key × Addr × Value)} (r : KT H kvs xs) (k : List Key) {b : Addr} {y : V} {u : Value} (hb : H b = some (.tup (k.map kV))) (ry : RelV y u) :
    KT H (putK kvs k y) (storedH xs k b u) := by
  have e : (kvs.any fun kv => decide (kv.1 = k)) = (atKey xs k).isSome := by
    rw [valV_any, (r.val k).isSome_eq, Option.isSome_map]
  unfold putK storedH
  rw [e]
  by_cases q : (atKey xs k).isSome = true
  · rw [if_pos q, if_pos q]; exact r.repl k ry
  · rw [if_neg q, if_neg q]; exact Paired.snoc r ⟨rfl, hb, ry⟩
theorem KT.keeps {H H' : Hp} {kvs : List (List Key × V)} {xs : List (List Key × Addr × Value)} (r : KT H kvs xs) (ht : ∀ b ys, H b = some (.tup ys) → H' b = some (.tup ys)) : KT H' kvs xs :=
  Paired.mapP r fun _ _ z => ⟨z.1, ht _ _ z.2.1, z.2.2⟩
section
variable {P : Program} {w : World} {H : Hp} {h : Heap} {a : Addr}
theorem rd_of {u : HO} (ok : HOk P w H h) (e : Rd H a u) : ObjOk P w H h a u := e.ok ok
theorem dk_rd {kvs : List (Key × V)} (ok : HOk P w H h) (e : Rd H a (.dK kvs)) : kvs.length ≤ sizeLine ∧ (a == sysModules) = false ∧ ∃ vs, KV kvs vs ∧ h.DictOf (mixKind P w) a vs :=
  show ObjOk P w H h a (.dK kvs) from rd_of ok e
theorem dk_of {kvs : List (Key × V)} (ok : HOk P w H h) (e : H a = some (.dK kvs)) : kvs.length ≤ sizeLine ∧ (a == sysModules) = false ∧ ∃ vs, KV kvs vs ∧ h.DictOf (mixKind P w) a vs := dk_rd ok (.inl e)
theorem key_of {ks : List Key} (ok : HOk P w H h) (e : H a = some (.tup (ks.map kV))) : (tupleKind (mixKind P w)).is h ks a := by
  obtain ⟨_, its, r, o, h1, h2, n, h3⟩ := (show ObjOk P w H h a (.tup (ks.map kV)) from ok a _ e)
  exact ⟨o, its.toArray, n, h1, h2, h3, by simpa using items_are r⟩
theorem dt_rd {kvs : List (List Key × V)} (ok : HOk P w H h) (e : Rd H a (.dT kvs)) : kvs.length ≤ sizeLine ∧ (a == sysModules) = false ∧
    ∃ xs, KT H kvs xs ∧ h.DictOfH (tupleKind (mixKind P w)) a xs := by
  obtain ⟨z, y, xs, r, o, es, ep, h1, h2, h3, h4, h5⟩ := (show ObjOk P w H h a (.dT kvs) from rd_of ok e)
  refine ⟨z, y, xs, r, o, es, ep, h1, h2, h3, h4, fun x hx => ?_, h5⟩
  have all : ∀ {l : List (List Key × V)} {m : List (List Key × Addr × Value)}, KT H l m → ∀ x ∈ m, (tupleKind (mixKind P w)).is h x.1 x.2.1 := by
    intro l m q
    induction q with
    | nil => intro x hx; exact nomatch hx
    | @cons p q ps qs hq t ih =>
      intro x hx
      rcases List.mem_cons.mp hx with e | hx
      · subst e
        exact key_of ok (by rw [← hq.1]; exact hq.2.1)
      · exact ih x hx
  exact all r x hx
theorem dt_of {kvs : List (List Key × V)} (ok : HOk P w H h) (e : H a = some (.dT kvs)) : kvs.length ≤ sizeLine ∧ (a == sysModules) = false ∧
    ∃ xs, KT H kvs xs ∧ h.DictOfH (tupleKind (mixKind P w)) a xs := dt_rd ok (.inl e)
end
def DGet (H : Hp) (a : Addr) (y : V) (r : Option V) : Prop :=
  (∃ kvs k, Rd H a (.dK kvs) ∧ y = kV k ∧ r = valV kvs k) ∨ ∃ kvs k b, Rd H a (.dT kvs) ∧ y = .ref b ∧ H b = some (.tup (k.map kV)) ∧ r = valV kvs k
def DPut (H : Hp) (a : Addr) (y v : V) (H' : Hp) : Prop :=
  (∃ kvs k, H a = some (.dK kvs) ∧ y = kV k ∧ kvs.length < sizeLine ∧ H' = upd H a (.dK (putK kvs k v))) ∨
  ∃ kvs k b, H a = some (.dT kvs) ∧ y = .ref b ∧ H b = some (.tup (k.map kV)) ∧ kvs.length < sizeLine ∧ H' = upd H a (.dT (putK kvs k v))
theorem DPut.k {H : Hp} {a : Addr} {kvs : List (Key × V)} {k : Key} {v : V} (e : H a = some (.dK kvs)) (hl : kvs.length < sizeLine) : DPut H a (kV k) v (upd H a (.dK (putK kvs k v))) := .inl ⟨kvs, k, e, rfl, hl, rfl⟩
section
variable {X : Cx} {pins : List (Addr × Obj)} {σ : St} {H : Hp} {s : Shared} {a : Addr} {y v : V} {u r : Value} {o : Option V} {A : Around} {E : Value → Shared → Prop}
theorem Inv.big (I : Inv X pins σ H s) : sysModules < s.heap.objs.size := by
  have h : mainGlobals < s.heap.objs.size := (I.mod.glob.keeps I.bk).lt
  exact Nat.lt_trans (by decide) h
theorem d_getItem {Q : Value → Shared → Prop} (hu : A.units + 1 < cLine) (I : Inv X pins σ H s) (g : DGet H a y (some v)) (ry : RelV y u) (h : ∀ w' s', Inv X pins σ H s' → RelV v w' → Q w' s') :
    wpAny (model X.prog X.w) A (getItem (.ref a) u) Q E s := by
  rcases g with ⟨kvs, k, e, ey, l⟩ | ⟨kvs, k, b, e, ey, eb, l⟩
  · subst ey
    obtain ⟨z, hd, vs, rel, dd⟩ := dk_rd I.hok e
    obtain ⟨w', hw, rw'⟩ := RelO.some_of (v := v) (o := valueAt vs k) (by rw [l]; exact rel.val k)
    exact wpAny_getItem_of (kV_is ry) dd.mapOf hw (h w' _ (I.tok _) rw')
  · subst ey
    cases (show u = Value.ref b from ry)
    obtain ⟨z, hd, xs, rel, dd⟩ := dt_rd I.hok e
    obtain ⟨w', hw, rw'⟩ := RelO.some_of (v := v) (o := (atKey xs k).map (·.2)) (by rw [l]; exact rel.val k)
    obtain ⟨p, hp, hp2⟩ := Option.map_eq_some_iff.mp hw
    refine wpAny_getItem_heap (tupleKind_room_in1 hu) (key_of I.hok eb) dd hp ?_
    rw [hp2]
    exact h w' _ (I.tok _) rw'
theorem d_notIn {Q : Value → Shared → Prop} (hu : A.units + 1 < cLine) (I : Inv X pins σ H s) (g : DGet H a y o) (ry : RelV y u) (h : ∀ s', Inv X pins σ H s' → Q (.bool (!o.isSome)) s') :
    wpAny (model X.prog X.w) A (compareOp .NotIn u (.ref a)) Q E s := by
  rcases g with ⟨kvs, k, e, ey, l⟩ | ⟨kvs, k, b, e, ey, eb, l⟩
  · subst ey
    obtain ⟨z, hd, vs, rel, dd⟩ := dk_rd I.hok e
    refine wpAny_notIn_of (kV_is ry) hd dd.mapOf ?_
    rw [← (rel.val k).isSome_eq, ← l]
    exact h _ (I.tok _)
  · subst ey
    cases (show u = Value.ref b from ry)
    obtain ⟨z, hd, xs, rel, dd⟩ := dt_rd I.hok e
    refine wpAny_notIn_heap (tupleKind_room_in1 hu) (key_of I.hok eb) hd dd ?_
    have q := (rel.val k).isSome_eq
    rw [Option.isSome_map] at q
    rw [← q, ← l]
    exact h _ (I.tok _)
theorem d_write {h' : Heap} {t' : Nat} {ob : HO} (I : Inv X pins σ H s) (mu : Mut (H a)) (hs : Heap.SameBut a s.heap h') (he : ∃ q, h'.get? a = some q) (new : ObjOk X.prog X.w (upd H a ob) h' a ob) :
    Inv X pins σ (upd H a ob) { s with heap := h', toks := t' } :=
  I.write (x := a) (e := a) mu (.inl rfl) (fun b q hb z => (hs.2 b hb).trans z) he new
theorem dk_new {P : Program} {w : World} {H' : Hp} {h' : Heap} {kvs : List (Key × V)} {vs : List (Key × Value)} (z : kvs.length ≤ sizeLine) (hd : (a == sysModules) = false) (rel : KV kvs vs) (dd : h'.DictOf (mixKind P w) a vs) :
    ObjOk P w H' h' a (.dK kvs) := ⟨z, hd, vs, rel, dd⟩
end
section
variable {X : Cx} {pins : List (Addr × Obj)} {σ : St} {H : Hp} {s : Shared} {a : Addr} {kvs : List (Key × V)} {k : Key} {u : Value} {A : Around} {E : Value → Shared → Prop}
end
def NoSl (i : Expr) : Prop := ∀ ov iv, subscripted i false ov iv = operate [ov, iv] (getItem ov iv)
theorem subD_of {prog : Program} {w : World} {A : Around} {E : Value → Shared → Prop} {s : Shared} {env : Env} {value slice : Expr} {pos : Pos} {T id : String} {Q : Value → Shared → Prop}
    (hl : typeLookup (.type T) "__getitem__" = pure (some (.builtin id))) (hs : NoSl slice)
    (h : wpAny (model prog w) A (eval value env) (fun o s₁ => wpAny (model prog w) A (eval slice env) (fun i s₂ => s₂.TypeIs o T ∧ wpAny (model prog w) A (getItem o i) Q E s₂) E s₁) E s) :
    wpAny (model prog w) A (eval (.Subscript value slice pos) env) Q E s := by
  refine Subscript_ (wpAny_mono h (fun o s₁ h₁ => wpAny_mono h₁ (fun i s₂ h₂ => ?_) fun _ _ x => x) fun _ _ x => x)
  obtain ⟨hT, h₂⟩ := h₂
  unfold subscriptTail
  refine wpAny_bind ?_
  rw [getitemInPython_of_ne hT.not_modules]
  refine wpAny_bind (wpAny_specialOf hT hl ?_)
  have fin : wpAny (model prog w) A (subscripted slice false o i) (fun r s₃ => wpAny (model prog w) A (letTemporaryGo value o r >>= fun _ => pure r) Q E s₃) E s₂ := by
    rw [hs o i]
    exact wpAny_operating (wpAny_mono h₂ (fun r s₃ h₃ => wpAny_bind (wpAny_letTemporaryGo (wpAny_pure h₃))) fun _ _ x => x)
  first
    | exact wpAny_pure (wpAny_bind fin)
    | exact wpAny_bind (wpAny_pure (wpAny_bind fin))
    | exact wpAny_bind fin
theorem dict_typeIs {X : Cx} {pins : List (Addr × Obj)} {σ : St} {H : Hp} {s : Shared} {a : Addr} {y : V} {o : Option V} (I : Inv X pins σ H s) (g : DGet H a y o) : s.TypeIs (.ref a) "dict" := by
  rcases g with ⟨kvs, k, e, _, _⟩ | ⟨kvs, k, b, e, _, _, _⟩
  · obtain ⟨_, _, vs, _, dd⟩ := dk_rd I.hok e
    exact dd.typeIs
  · obtain ⟨_, _, xs, _, dd⟩ := dt_rd I.hok e
    exact dd.typeIs
def tDGet (td ty : TE) : TE := fun σ H Q => td σ H fun x H1 => ty σ H1 fun y H2 => ∃ a v, x = .ref a ∧ DGet H2 a y (some v) ∧ Q v H2
def tDNotIn (ty td : TE) : TE := fun σ H Q => ty σ H fun y H1 => td σ H1 fun x H2 => ∃ a o, x = .ref a ∧ DGet H2 a y o ∧ Q (.bl (!o.isSome)) H2
section
variable {X : Cx} {o i e value : Expr} {pos pos' tpos : Pos} {td ty tv : TE}
theorem pe_dget (hu : X.A.units + 1 < cLine) (ho : PE X o td) (hi : PE X i ty) (hs : NoSl i) : PE X (.Subscript o i pos) (tDGet td ty) := by
  intro pins s σ H Q I h
  refine subD_of PySem.F.slot_dict_getitem.lookup hs (thn (ho pins s σ H _ I h) fun u s1 ⟨x, H1, I1, rx, q1⟩ => thn (hi pins s1 σ H1 _ I1 q1) fun iv s2 ⟨y, H2, I2, ry, a, v, ex, g, q2⟩ => ?_)
  subst ex
  obtain rfl : u = Value.ref a := rx
  exact ⟨dict_typeIs I2 g, d_getItem hu I2 g ry fun w' s3 I3 rw' => ⟨v, H2, I3, rw', q2⟩⟩
theorem pc_dnotin (hu : X.A.units + 1 < cLine) (hi : PE X i ty) (ho : PE X o td) : PC X .NotIn i o (tDNotIn ty td) := by
  intro pins s σ H Q I h
  refine thn (hi pins s σ H _ I h) fun iv s1 ⟨y, H1, I1, ry, q1⟩ => thn (ho pins s1 σ H1 _ I1 q1) fun u s2 ⟨x, H2, I2, rx, a, ov, ex, g, q2⟩ => ?_
  subst ex
  obtain rfl : u = Value.ref a := rx
  exact d_notIn hu I2 g ry fun s3 I3 => ⟨.bl (!ov.isSome), H2, I3, rfl, q2⟩
end
theorem dk_empty {P : Program} {w : World} {H : Hp} (h : Heap) (hb : sysModules < h.objs.size) : ObjOk P w H (h.push { cls := .type "dict", data := .dict #[] }) h.objs.size (.dK []) :=
  ⟨Nat.zero_le _, beq_eq_false_iff_ne.mpr (Ne.symm (Nat.ne_of_lt hb)), [], .nil, Heap.DictOf.new h⟩
theorem dt_empty {P : Program} {w : World} {H : Hp} (h : Heap) (hb : sysModules < h.objs.size) : ObjOk P w H (h.push { cls := .type "dict", data := .dict #[] }) h.objs.size (.dT []) :=
  ⟨Nat.zero_le _, beq_eq_false_iff_ne.mpr (Ne.symm (Nat.ne_of_lt hb)), [], .nil, _, #[], 0, Heap.get?_push_size _ rfl, ⟨rfl, rfl, rfl⟩, rfl, rfl, List.nodup_nil⟩
def tDNewK : TE := fun _ H Q => ∀ p, H p = none → Q (.ref p) (upd H p (.dK []))
def tDNewT : TE := fun _ H Q => ∀ p, H p = none → Q (.ref p) (upd H p (.dT []))
section
variable {X : Cx} {pos : Pos}
theorem pe_dnewK : PE X (.Dict [] [] pos) tDNewK := fun pins s σ H Q I h =>
  wpAny_Dict_empty ⟨.ref s.heap.objs.size, _, I.laid (a := s.heap.objs.size) (o := .dK []) (t' := s.toks) (fun _ _ q => Heap.get?_push_of_some _ q) (Nat.le_refl _) (dk_empty s.heap I.big), rfl, h _ (I.hok.fresh (Nat.le_refl _))⟩
theorem pe_dnewT : PE X (.Dict [] [] pos) tDNewT := fun pins s σ H Q I h =>
  wpAny_Dict_empty ⟨.ref s.heap.objs.size, _, I.laid (a := s.heap.objs.size) (o := .dT []) (t' := s.toks) (fun _ _ q => Heap.get?_push_of_some _ q) (Nat.le_refl _) (dt_empty s.heap I.big), rfl, h _ (I.hok.fresh (Nat.le_refl _))⟩
end
structure M2 (X : Cx) (o : Expr) (m : Str) (apos : Pos) (e f : Expr) (cpos : Pos) : Prop where
  base : attributeBase o m X.env (eval o X.env) = eval o X.env
  few : ((backTo cpos (starEach [e, f] X.env)).all (fun x => !x.1) && (backToKw cpos (keywordEach [] X.env)).all (fun x => x.1.isSome)
    && decide (([e, f] : List Expr).length + ([] : List Keyword).length + (if ([] : List Keyword).isEmpty then 0 else 1) < 30)) = true
  line : (apos.endLine == cpos.line) = true
  trees : backTo cpos (starEach [e, f] X.env) = [(false, eval e X.env), (false, eval f X.env)]
def IsD (H : Hp) (a : Addr) : Prop := (∃ kvs, Rd H a (.dK kvs)) ∨ ∃ kvs, Rd H a (.dT kvs)
theorem isD_at {X : Cx} {pins : List (Addr × Obj)} {σ : St} {H : Hp} {s : Shared} {a : Addr} (I : Inv X pins σ H s) (d : IsD H a) :
    s.TypeIs (.ref a) "dict" ∧ (∀ b, Value.ref a = .ref b → ∃ ob, s.heap.get? b = some ob ∧ ob.dict = none) ∧ (a == sysModules) = false := by
  rcases d with ⟨kvs, e⟩ | ⟨kvs, e⟩
  · obtain ⟨_, hd, vs, _, dd⟩ := dk_rd I.hok e
    refine ⟨dd.typeIs, fun b q => ?_, hd⟩
    cases q
    obtain ⟨ob, _, _, h1, h2, _⟩ := dd
    exact ⟨ob, h1, h2.2.1⟩
  · obtain ⟨_, hd, xs, _, dd⟩ := dt_rd I.hok e
    refine ⟨dd.typeIs, fun b q => ?_, hd⟩
    cases q
    obtain ⟨ob, _, _, h1, h2, _⟩ := dd
    exact ⟨ob, h1, h2.2.1⟩
section
variable {X : Cx} {pins : List (Addr × Obj)} {σ : St} {H : Hp} {s : Shared} {a : Addr} {y d : V} {u r : Value} {o : Option V} {A : Around} {E : Value → Shared → Prop}
theorem d_get2 {Q : Value → Shared → Prop} (hu : A.units + 1 < cLine) (I : Inv X pins σ H s) (g : DGet H a y o) (ry : RelV y u) (rd : RelV d r) (h : ∀ w' s', Inv X pins σ H s' → RelV (o.getD d) w' → Q w' s') :
    wpAny (model X.prog X.w) A (call (.builtin "dict.get") [.ref a, u, r]) Q E s := by
  rcases g with ⟨kvs, k, e, ey, l⟩ | ⟨kvs, k, b, e, ey, eb, l⟩
  · subst ey
    obtain ⟨z, hd, vs, rel, dd⟩ := dk_rd I.hok e
    refine call_meetsIn PySem.F.slot_dict_get dd.typeIs PySem.F.entry_dict_get (PySem.F.args_dict_get_3 _ _ _) (meets_dict_get_default (mixKind X.prog X.w) a (kV_is ry) hd r) ⟨_, dd.mapOf, h _ _ (I.tok _) ?_⟩
    rw [l]
    exact (rel.val k).getD rd
  · subst ey
    cases (show u = Value.ref b from ry)
    obtain ⟨z, hd, xs, rel, dd⟩ := dt_rd I.hok e
    refine call_meetsIn PySem.F.slot_dict_get dd.typeIs PySem.F.entry_dict_get (PySem.F.args_dict_get_3 _ _ _) (meetsH_dict_get_default (tupleKind (mixKind X.prog X.w)) a b hd r) ⟨tupleKind_room_in1 hu, k, xs, key_of I.hok eb, dd, h _ _ (I.tok _) ?_⟩
    rw [l]
    exact (rel.val k).getD rd
end
def tDGet2 (td ty tx : TE) : TE := fun σ H Q => td σ H fun x H1 => ∃ a, x = .ref a ∧ IsD H1 a ∧ ty σ H1 fun y H2 => tx σ H2 fun z H3 => ∃ o, DGet H3 a y o ∧ Q (o.getD z) H3
section
variable {X : Cx} {o e f : Expr} {apos cpos : Pos} {td ty tx : TE}
theorem pe_dget2 (hu : X.A.units + 1 < cLine) (ho : PE X o td) (he : PE X e ty) (hf : PE X f tx) (m : M2 X o "get" apos e f cpos) : PE X (.Call (.Attribute o "get" apos) [e, f] [] cpos) (tDGet2 td ty tx) := by
  intro pins s σ H Q I h
  refine wpAny_Call_method m.base m.few m.line PySem.F.plainAttrs_dict PySem.F.slot_dict_get PySem.F.type_dict_get (thn (ho pins s σ H _ I h) fun u s1 ⟨x, H1, I1, rx, a, ex, d, q1⟩ => ?_)
  subst ex
  obtain rfl : u = Value.ref a := rx
  obtain ⟨t1, t2, _⟩ := isD_at I1 d
  refine ⟨t1, t2, ?_⟩
  rw [m.trees]
  refine Calls.callWith_builtin rfl (Calls.evalArgs_plain (Calls.spliced_cons (thn (he pins s1 σ H1 _ I1 q1) fun iv s2 ⟨y, H2, I2, ry, q2⟩ =>
    Calls.spliced_cons (thn (hf pins s2 σ H2 _ I2 q2) fun fv s3 ⟨z, H3, I3, rz, ov, g, q3⟩ => Calls.spliced_nil ?_))))
  exact d_get2 hu I3 g ry rz fun w' s4 I4 rw' => ⟨_, H3, I4, rw', q3⟩
end
section
variable {X : Cx} {pins : List (Addr × Obj)} {σ : St} {H : Hp} {s : Shared} {a : Addr} {kvs : List (Key × V)} {A : Around} {E : Value → Shared → Prop}
end
section
variable {X : Cx} {pins : List (Addr × Obj)} {σ : St} {H : Hp} {s : Shared} {a : Addr} {y : V} {u : Value} {A : Around} {E : Value → Shared → Prop}
end
end L2
namespace Att
open PySem PySem.W PySem.Calls PyProof.Rows
section
variable {prog : Program} {w : World} {A : Around} {E : Value → Shared → Prop} {s : Shared} {K : Frag}
end
end Att
namespace L2
open PySem PySem.Spec PyProof.Rows
end L2
namespace L2
open PySem PySem.Spec PyProof.Rows
end L2
namespace L2
open PySem PySem.Spec PyProof.Rows
section
variable {P : Program} {w : World} {K : PySem.W.Frag} {mg : Str → Option Value} {base : Heap}
end
section
variable {X : Cx}
end
section
variable {κ : Type} [DecidableEq κ]
theorem valV_not {kvs : List (κ × V)} {k : κ} (h : valV kvs k = none) : ¬ k ∈ kvs.map (·.1) := by
  intro m
  obtain ⟨p, hp, e⟩ := List.mem_map.mp m
  have q : (kvs.any fun kv => decide (kv.1 = k)) = true := List.any_eq_true.mpr ⟨p, hp, decide_eq_true e⟩
  rw [valV_any, h] at q
  exact absurd q (by simp)
theorem valV_in {kvs : List (κ × V)} {k : κ} {v : V} (h : valV kvs k = some v) : k ∈ kvs.map (·.1) := by
  have q : (kvs.any fun kv => decide (kv.1 = k)) = true := by
    rw [valV_any, h]
    all_goals rfl
  obtain ⟨p, hp, e⟩ := List.any_eq_true.mp q
  exact List.mem_map.mpr ⟨p, hp, of_decide_eq_true e⟩
end
end L2
namespace L2
open PySem PySem.Spec PyProof.Rows
def clOf (scope : Scope) (env : Env) : List (Str × Addr) :=
  (scope.names.filterMap fun p => if p.2 = NameKind.free then (env.cells.lookup p.1).map fun c => (p.1, c) else none).reverse
theorem lookup_memOf {α : Type} {x : Str} {c : α} : ∀ {l : List (Str × α)}, l.lookup x = some c → (x, c) ∈ l
  | [], h => by simp at h
  | (y, d) :: r, h => by
    rw [List.lookup_cons] at h
    cases e : x == y with
    | true =>
      rw [e] at h
      have h' : d = c := Option.some.inj h
      rw [h', eq_of_beq e]
      exact List.mem_cons_self
    | false =>
      rw [e] at h
      exact List.mem_cons_of_mem _ (lookup_memOf h)
theorem lookup_ofMem {α : Type} {x : Str} {c : α} : ∀ {l : List (Str × α)}, (x, c) ∈ l → ∃ d, l.lookup x = some d
  | [], h => by simp at h
  | (y, d) :: r, h => by
    rw [List.lookup_cons]
    cases e : x == y with
    | true => exact ⟨d, rfl⟩
    | false =>
      rcases List.mem_cons.mp h with z | z
      · have z1 : x = y := congrArg Prod.fst z
        rw [z1, beq_self_eq_true] at e
        cases e
      · exact lookup_ofMem z
theorem mem_clOf {scope : Scope} {env : Env} {x : Str} {c : Addr} : (x, c) ∈ clOf scope env ↔ (x, NameKind.free) ∈ scope.names ∧ env.cells.lookup x = some c := by
  unfold clOf
  rw [List.mem_reverse, List.mem_filterMap]
  constructor
  · rintro ⟨⟨y, k⟩, hm, e⟩
    by_cases hk : k = NameKind.free
    · subst hk
      rw [if_pos rfl] at e
      cases q : env.cells.lookup y with
      | none => rw [q] at e; cases e
      | some d =>
        rw [q] at e
        have e' : (y, d) = (x, c) := Option.some.inj e
        cases e'
        exact ⟨hm, q⟩
    · rw [if_neg hk] at e
      cases e
  · rintro ⟨hm, q⟩
    exact ⟨(x, NameKind.free), hm, by rw [if_pos rfl]; rw [q]; rfl⟩
theorem clOf_env {scope : Scope} {env : Env} {x : Str} {c : Addr} (h : (clOf scope env).lookup x = some c) : env.cells.lookup x = some c := (mem_clOf.mp (lookup_memOf h)).2
theorem clOf_has {scope : Scope} {env : Env} {x : Str} {c : Addr} (hm : (x, NameKind.free) ∈ scope.names) (h : env.cells.lookup x = some c) : (clOf scope env).lookup x = some c := by
  obtain ⟨d, e⟩ := lookup_ofMem (mem_clOf.mpr ⟨hm, h⟩)
  rw [e, ← h]
  exact (clOf_env e).symm
theorem closure_go {env : Env} : ∀ (names : List (Str × NameKind)) (cs : List (Str × Addr)), (∀ p ∈ names, p.2 = .free → ∃ c, env.cells.lookup p.1 = some c) →
    (forIn names cs fun (x : Str × NameKind) (cs : List (Str × Addr)) => (match x with
      | (name, kind) => if (kind == .free) = true then (do let a ← cellOf env name; pure (ForInStep.yield ((name, a) :: cs))) else pure (ForInStep.yield cs) : Sem (ForInStep (List (Str × Addr)))))
      = pure ((names.filterMap fun p => if p.2 = NameKind.free then (env.cells.lookup p.1).map fun c => (p.1, c) else none).reverse ++ cs)
  | [], cs, _ => rfl
  | (n, k) :: r, cs, h => by
    rw [List.forIn_cons]
    have hr : ∀ p ∈ r, p.2 = .free → ∃ c, env.cells.lookup p.1 = some c := fun p hp => h p (List.mem_cons_of_mem _ hp)
    by_cases hk : k = NameKind.free
    · subst hk
      obtain ⟨c, hc⟩ := h (n, .free) List.mem_cons_self rfl
      have e1 : cellOf env n = pure c := by unfold cellOf; rw [show env.cells.lookup n = some c from hc]
      show ((do let a ← cellOf env n; pure (ForInStep.yield ((n, a) :: cs)) : Sem (ForInStep (List (Str × Addr)))) >>= _) = _
      rw [e1]
      simp only [pure_bind]
      rw [closure_go r ((n, c) :: cs) hr, List.filterMap_cons, if_pos rfl, show env.cells.lookup n = some c from hc]
      simp
    · have hb : (k == NameKind.free) = false := by simpa using hk
      show ((if (k == NameKind.free) = true then (do let a ← cellOf env n; pure (ForInStep.yield ((n, a) :: cs))) else pure (ForInStep.yield cs) : Sem (ForInStep (List (Str × Addr)))) >>= _) = _
      rw [hb, if_neg Bool.false_ne_true]
      simp only [pure_bind]
      rw [closure_go r cs hr, List.filterMap_cons, if_neg hk]
theorem closure_is {scope : Scope} {env : Env} (h : ∀ p ∈ scope.names, p.2 = .free → ∃ c, env.cells.lookup p.1 = some c) : closureFor scope env = pure (clOf scope env) := by
  have e := closure_go scope.names [] h
  rw [List.append_nil] at e
  unfold closureFor clOf
  simp only [bind_pure]
  exact e
theorem lookup_relabel {env : Env} {x : Str} : ∀ {names : List (Str × NameKind)} {k : NameKind},
    (names.map fun (n, k) => if (k == NameKind.free && env.scope.kind == .function && env.kindOf n == some .cell) then (n, NameKind.cell) else (n, k)).lookup x = some k →
      ∃ k', (x, k') ∈ names ∧ (k' = k ∨ (k' = .free ∧ k = .cell))
  | [], _, h => by simp at h
  | (n, j) :: r, k, h => by
    by_cases hc : (j == NameKind.free && env.scope.kind == .function && env.kindOf n == some .cell) = true
    · rw [List.map_cons] at h
      have h' : List.lookup x ((if (j == NameKind.free && env.scope.kind == .function && env.kindOf n == some .cell) = true then (n, NameKind.cell) else (n, j)) :: _) = some k := h
      rw [if_pos hc, List.lookup_cons] at h'
      cases e : x == n with
      | true =>
        rw [e] at h'
        have h2 : NameKind.cell = k := Option.some.inj h'
        have hj : j = NameKind.free := by
          have := hc
          rw [Bool.and_eq_true, Bool.and_eq_true] at this
          exact eq_of_beq this.1.1
        exact ⟨j, by rw [eq_of_beq e]; exact List.mem_cons_self, .inr ⟨hj, h2.symm⟩⟩
      | false =>
        rw [e] at h'
        obtain ⟨k', hm, q⟩ := lookup_relabel h'
        exact ⟨k', List.mem_cons_of_mem _ hm, q⟩
    · rw [List.map_cons] at h
      have h' : List.lookup x ((if (j == NameKind.free && env.scope.kind == .function && env.kindOf n == some .cell) = true then (n, NameKind.cell) else (n, j)) :: _) = some k := h
      rw [if_neg hc, List.lookup_cons] at h'
      cases e : x == n with
      | true =>
        rw [e] at h'
        exact ⟨j, by rw [eq_of_beq e]; exact List.mem_cons_self, .inl (Option.some.inj h')⟩
      | false =>
        rw [e] at h'
        obtain ⟨k', hm, q⟩ := lookup_relabel h'
        exact ⟨k', List.mem_cons_of_mem _ hm, q⟩
def compOk (N : List Str) (sc scope : Scope) (N' : List Str) (ix : List (Option Nat)) : Bool :=
  scope.kind == .function && scope.names.all (fun y => y.2 != .cell) && scope.names.all (fun y => y.2 != .local || scope.names.lookup y.1 == some .local) &&
  scope.names.all (fun y => y.2 != .free || sc.names.lookup y.1 == some .cell || sc.names.lookup y.1 == some .free) &&
  decide (ix.length = N'.length) && decide N'.Nodup &&
  (N'.zip ix).all fun p => match p.2 with
    | none => scope.names.all fun y => y.1 != p.1 || y.2 == .local
    | some k => N[k]? == some p.1 && scope.names.lookup p.1 == some .free && scope.names.all fun y => y.1 != p.1 || y.2 == .free
structure CompOk (N : List Str) (sc scope : Scope) (N' : List Str) (ix : List (Option Nat)) : Prop where
  kind : scope.kind = .function
  nocell : ∀ y ∈ scope.names, y.2 ≠ .cell
  names : ∀ y ∈ scope.names, y.2 = .local → scope.names.lookup y.1 = some .local
  frees : ∀ y ∈ scope.names, y.2 = .free → sc.names.lookup y.1 = some .cell ∨ sc.names.lookup y.1 = some .free
  len : ix.length = N'.length
  nd : N'.Nodup
  own : ∀ (i : Nat) (x : Str), N'[i]? = some x → ix[i]? = some none → ∀ y ∈ scope.names, y.1 = x → y.2 = .local
  out : ∀ (i : Nat) (x : Str) (k : Nat), N'[i]? = some x → ix[i]? = some (some k) → N[k]? = some x ∧ (x, NameKind.free) ∈ scope.names ∧ ∀ y ∈ scope.names, y.1 = x → y.2 = .free
theorem compOk_is {N : List Str} {sc scope : Scope} {N' : List Str} {ix : List (Option Nat)} (h : compOk N sc scope N' ix = true) : CompOk N sc scope N' ix := by
  unfold compOk at h
  simp only [Bool.and_eq_true, List.all_eq_true, Bool.or_eq_true, bne_iff_ne, beq_iff_eq, decide_eq_true_eq, ne_eq] at h
  obtain ⟨⟨⟨⟨⟨⟨h1, h2⟩, h3⟩, h4⟩, h5⟩, h6⟩, h7⟩ := h
  have zipAt : ∀ {i : Nat} {x : Str} {o : Option Nat}, N'[i]? = some x → ix[i]? = some o → (x, o) ∈ N'.zip ix := fun {i x o} a b => by
    refine List.mem_of_getElem? (i := i) ?_
    rw [List.getElem?_zip_eq_some]
    exact ⟨a, b⟩
  refine ⟨h1, fun y hy => h2 y hy, fun y hy e => ?_, fun y hy e => ?_, h5, h6, fun i x a b y hy e => ?_, fun i x k a b => ?_⟩
  · rcases h3 y hy with z | z
    · exact absurd e z
    · exact z
  · rcases h4 y hy with (z | z) | z
    · exact absurd e z
    · exact .inl z
    · exact .inr z
  · have q := h7 _ (zipAt a b)
    simp only [List.all_eq_true, Bool.or_eq_true, bne_iff_ne, beq_iff_eq, ne_eq] at q
    rcases q y hy with z | z
    · exact absurd e z
    · exact z
  · have q := h7 _ (zipAt a b)
    simp only [Bool.and_eq_true, List.all_eq_true, Bool.or_eq_true, bne_iff_ne, beq_iff_eq, ne_eq] at q
    obtain ⟨⟨q1, q2⟩, q3⟩ := q
    refine ⟨q1, lookup_memOf q2, fun y hy e => ?_⟩
    rcases q3 y hy with z | z
    · exact absurd e z
    · exact z
def blkSt (ix : List (Option Nat)) (σ : St) : St := ix.map fun o => match o with
  | some k => (σ[k]?).join
  | none => none
def blk (X : Cx) (scope : Scope) (N' : List Str) (C : Addr) (fp : List Addr) (s₂ : Shared) (H₂ : Hp) : Cx :=
  { X with N := N', s₀ := s₂, H₀ := H₂, env := compEnvC scope (clOf scope X.env) C X.env, outer := X.stack, stack := X.stack, ex := fp, fn := fun _ => false, pn := [], xe := fun _ _ => False }
abbrev lstO (its : List Value) (n : Nat) : Obj := { cls := .type "list", data := .seq its.toArray n }
section
variable {X : Cx} {scope : Scope} {N' : List Str} {ix : List (Option Nat)} {C : Addr} {fp : List Addr} {s₂ : Shared} {H₂ : Hp} {pins : List (Addr × Obj)} {σ : St}
theorem blk_cells (I : Inv X pins σ H₂ s₂) {x : Str} {c : Addr} (h : (clOf scope X.env).lookup x = some c) : c < s₂.heap.objs.size := by
  obtain ⟨v, q⟩ := I.cell x c (clOf_env h)
  exact q.lt
theorem blk_ok (I : Inv X pins σ H₂ s₂) (co : CompOk X.N X.env.scope scope N' ix) (hC : @LE.le Nat _ s₂.heap.objs.size C) (hf : ∀ b ∈ fp, FpOk X pins H₂ b) (hlt : ∀ b ∈ fp, b < s₂.heap.objs.size) : (blk X scope N' C fp s₂ H₂).Ok where
  mod := I.ok.mod
  kind := co.kind
  glob := I.ok.glob
  blt := I.ok.blt
  above := hC
  inj := fun x y c e1 e2 => I.ok.inj x y c (clOf_env e1) (clOf_env e2)
  has := fun x h => by
    have h1 : ∃ k, (relabel scope X.env).names.lookup x = some k ∧ (k = .cell ∨ k = .free) := by
      rcases h with h | h
      · exact ⟨_, h, .inl rfl⟩
      · exact ⟨_, h, .inr rfl⟩
    obtain ⟨k, h1, h2⟩ := h1
    obtain ⟨k', hm, q⟩ := lookup_relabel h1
    have hk : k' = .free := by
      rcases q with q | ⟨q, _⟩
      · rcases h2 with z | z
        · exact absurd (q.trans z) (co.nocell _ hm)
        · exact q.trans z
      · exact q
    rw [hk] at hm
    obtain ⟨c, hc⟩ := I.ok.has x (co.frees _ hm rfl)
    exact ⟨c, clOf_has hm hc⟩
  cab := fun x c h => by
    have h' : false = true := h
    cases h'
  hd := I.ok.hd
  frames := I.ok.frames
  stk := .inl rfl
  exf := fun b hb => ⟨Nat.ne_of_lt (Nat.lt_of_lt_of_le (hlt b hb) hC), fun x c e => (hf b hb).2.2.2.2.1 x c (clOf_env e)⟩
  bs := I.bs
  bsz := Nat.le_trans I.ok.bsz I.sz
  noex := fun b o e hb => by
    rcases (hf b hb).2.2.2.1 with z | z
    · exact I.ok.noex b o e z
    · exact absurd (Nat.lt_of_lt_of_le (Heap.lt_size (I.ok.bs b o e).1) z) (Nat.lt_irrefl _)
  exfs := fun b hb z => by
    rcases List.mem_cons.mp (I.stkSub b z) with e | e
    · exact (hf b hb).2.1 e
    · exact (hf b hb).2.2.1 e
  funs := I.stack
  frf := I.stkFree
theorem blk_nofs (I : Inv X pins σ H₂ s₂) {b : Addr} (h : s₂.heap.objs.size ≤ b) : b ∉ frs X.stack := fun z => by
  rcases List.mem_cons.mp (I.stkSub b z) with e | e
  · rw [e] at h; exact absurd (Nat.lt_of_lt_of_le I.lt h) (Nat.lt_irrefl _)
  · exact I.nofs h e
theorem blk_start (I : Inv X pins σ H₂ s₂) (co : CompOk X.N X.env.scope scope N' ix) {D : Addr} {h₁ : Heap} {t' : Nat} (hD : @Eq Nat D s₂.heap.objs.size) (hC : @Eq Nat C (s₂.heap.objs.size + 1)) (hf : ∀ b ∈ fp, FpOk X pins H₂ b) (hlt : ∀ b ∈ fp, b < s₂.heap.objs.size)
    (old : ∀ b o, s₂.heap.get? b = some o → h₁.get? b = some o) (hacc : h₁.get? D = some (lstO [] 0)) {m : Str → Option Value} (hns : h₁.Ns C m) :
    Inv (blk X scope N' C fp s₂ H₂) [(D, lstO [] 0)] (blkSt ix σ) H₂ { s₂ with heap := h₁, toks := t' } where
  ok := blk_ok I co (by omega) hf hlt
  os := rfl
  bare := I.bare
  base := Un.kept old
  loc := by
    refine ⟨m, hns, fun i x v e1 e2 e3 => ?_⟩
    unfold blkSt at e2
    rw [List.getElem?_map] at e2
    cases q : ix[i]? with
    | none => rw [q] at e2; cases e2
    | some o =>
      rw [q] at e2
      cases o with
      | none => cases e2
      | some k =>
        have e2' : (σ[k]?).join = some v := Option.some.inj e2
        have e2'' : σ[k]? = some (some v) := by
          cases z : σ[k]? with
          | none => rw [z] at e2'; cases e2'
          | some o => rw [z] at e2'; exact congrArg some e2'
        obtain ⟨o1, o2, o3⟩ := co.out i x k e1 q
        have hk : X.env.kindOf x = some .cell ∨ X.env.kindOf x = some .free := co.frees _ o2 rfl
        have vis : Vis X.env.scope x := .inr hk
        obtain ⟨m0, _, hl⟩ := I.loc
        obtain ⟨u, r, l⟩ := hl k x v o1 e2'' vis
        refine ⟨u, r, ?_⟩
        rcases l with ⟨l, _⟩ | ⟨_, c, ec, hcell⟩
        · rcases hk with z | z
          · rw [z] at l; cases l
          · rw [z] at l; cases l
        · refine .inr ⟨?_, c, clOf_has o2 ec, ?_⟩
          · rcases e3 with z | z | z
            · obtain ⟨k', hm, q⟩ := lookup_relabel z
              rcases q with q | ⟨_, q⟩
              · have := o3 _ hm rfl
                rw [show k' = NameKind.local from q] at this
                cases this
              · cases q
            · exact .inl z
            · exact .inr z
          · obtain ⟨o, ho, hd⟩ := hcell
            exact ⟨o, old _ _ ho, hd⟩
  cell := fun x c e => by
    obtain ⟨v, o, ho, hd⟩ := I.cell x c (clOf_env e)
    exact ⟨v, o, old _ _ ho, hd⟩
  free := I.hok.fresh (by show @LE.le Nat _ s₂.heap.objs.size C; omega)
  freeC := fun x c e => I.freeC x c (clOf_env e)
  pin := fun p hp => by
    have e : p = (D, lstO [] 0) := by simpa [blk] using hp
    subst e
    refine ⟨hacc, I.hok.fresh (by show @LE.le Nat _ s₂.heap.objs.size D; omega), by show ¬ @Eq Nat D C; omega, blk_nofs I (by show @LE.le Nat _ s₂.heap.objs.size D; omega), fun v z => ?_⟩
    have z' : Data.seq _ _ = Data.cell v := z
    cases z'
  hok := I.hok.kept old
  len := by unfold blkSt; rw [List.length_map]; exact co.len
theorem blk_leave (I : Inv X pins σ H₂ s₂) {D : Addr} (hD : @Eq Nat D s₂.heap.objs.size) (hf : ∀ b ∈ fp, FpOk X pins H₂ b) {ys : List V} {its : List Value} {n : Nat} {σ' : St} {H' : Hp} {s' : Shared}
    (I' : Inv (blk X scope N' C fp s₂ H₂) [(D, lstO its n)] σ' H' s') (hv : Vals ys its) (hz : ys.length ≤ sizeLine) : Inv X pins σ (upd H' D (.lst ys)) s' := by
  obtain ⟨dp, dn, _, _, _⟩ := I'.pin (D, lstO its n) (by simp)
  have dp' : s'.heap.get? D = some (lstO its n) := dp
  have dn' : H' D = none := dn
  have u := I'.base
  have ne : ∀ b o, s₂.heap.get? b = some o → b ≠ D := fun b o e z => by
    have h1 : @LT.lt Nat _ b s₂.heap.objs.size := Heap.lt_size e
    have h2 : @Eq Nat b D := z
    omega
  have neH : ∀ b o, H₂ b = some o → b ≠ D := fun b o e z => by
    have h1 : @LT.lt Nat _ b s₂.heap.objs.size := I.hok.lt e
    have h2 : @Eq Nat b D := z
    omega
  refine I.call' (ch := fp) I'.os ⟨u.keep, u.slot, fun b o e q hb => ?_, u.there, fun b xs q => ?_, fun b o xs q => ?_, fun b ps q => ?_⟩ (fun b o e => ?_) I'.bare fun b hb => ?_
  · rw [upd_ne (ne b o e)]
    exact u.free b o e q hb
  · rw [upd_ne (neH b _ q)]
    exact u.tups b xs q
  · rw [upd_ne (neH b _ q)]
    exact u.frzs b o xs q
  · rw [upd_ne (neH b _ q)]
    exact u.tbls b ps q
  · by_cases hb : b = D
    · subst hb
      rw [upd_same] at e
      cases e
      exact ⟨hz, its, n, hv, dp'⟩
    · rw [upd_ne hb] at e
      exact (I'.hok b o e).stay (fun c v _ q => q) (fun c q => by rw [upd_ne (ne_of_none q dn')]; exact q) fun c xs q => by rw [upd_ne (ne_of_none q dn')]; exact q
  · obtain ⟨_, f1, _, f3, f4, f5⟩ := hf b hb
    exact ⟨f3, f1, f4, f5⟩
end
end L2
namespace L2
open PySem PySem.Spec PyProof.Rows
abbrev NoE : Value → Shared → Prop := fun _ _ => False
section
variable {prog : Program} {w : World} {A : Around} {R : Result → Shared → Prop} {s : Shared}
theorem compLoop_own {elt target iter : Expr} {ifs : List Expr} {scope : Scope} {pos : Pos} {it acc : Value} {env : Env} (I : Nat → Shared → Prop)
    (turn : ∀ n s, I n s → wpAny (model prog w) A (pyNext it) (fun r s₁ => match r with
      | none => R (.ok .next) s₁
      | some v => wpAny (model prog w) A (letOwnedTupleGo target it v) (fun _ s₁ => wpAny (model prog w) A (assign target env v) (fun _ s₂ =>
          wpAny (model prog w) A (forIn ifs true fun c r => if r = true then do let ok ← isTrue c env (eval c env); pure (ForInStep.yield ok) else pure (ForInStep.yield r)) (fun ok s₃ =>
            if ok = true then wpAny (model prog w) A (eval elt env) (fun x s₄ =>
              wpAny (model prog w) A (call (.builtin "list.append") [acc, x]) (fun _ s₅ => ∃ m, m < n ∧ I m s₅) NoE s₄) NoE s₃
            else ∃ m, m < n ∧ I m s₃) NoE s₂) NoE s₁) NoE s₁) NoE s)
    (n : Nat) (h : I n s) : codeAny (model prog w) A (.compLoop (.ListComp elt [⟨target, iter, ifs, 0⟩] scope pos) 0 it acc env) R s := by
  refine codeAny_loop rfl I (fun n s hI => ?_) n h
  show wpAny _ A ((compTurn (.ListComp elt [⟨target, iter, ifs, 0⟩] scope pos) 0 it acc env).onRaise (fun x => do noteFrame x env; theTreesLotGoes x)) _ _ s
  refine wpAny_noted ?_
  rw [compTurn_list]
  refine wpAny_bind (wpAny_standAt (wpAny_bind (wpAny_mono (turn n s hI) (fun r s₁ h₁ => ?_) fun _ _ h' => h'.elim)))
  cases r with
  | none => exact wpAny_pure h₁
  | some v =>
    refine wpAny_bind (wpAny_mono h₁ (fun _ s₁ h₁ => ?_) fun _ _ h' => h'.elim)
    refine wpAny_bind (wpAny_mono h₁ (fun _ s₂ h₂ => wpAny_bind (wpAny_mono h₂ (fun ok s₃ h₃ => ?_) fun _ _ h' => h'.elim)) fun _ _ h' => h'.elim)
    cases ok with
    | false => exact wpAny_pure ⟨rfl, h₃⟩
    | true =>
      exact wpAny_bind (wpAny_bind (wpAny_mono h₃ (fun x s₄ h₄ => wpAny_bind (wpAny_mono h₄ (fun _ s₅ h₅ => wpAny_pure (wpAny_pure ⟨rfl, h₅⟩)) fun _ _ h' => h'.elim)) fun _ _ h' => h'.elim))
end
def PIf (X : Cx) (ifs : List Expr) (t : TT) : Prop :=
  ∀ (pins : List (Addr × Obj)) (s : Shared) (σ : St) (H : Hp) (Q : Bool → Hp → Prop), Inv X pins σ H s → t σ H Q →
    wpAny (model X.prog X.w) X.A (forIn ifs true fun c r => if r = true then do let ok ← isTrue c X.env (eval c X.env); pure (ForInStep.yield ok) else pure (ForInStep.yield r)) (TP X pins σ Q) X.xe s
def tYes : TT := fun _ H Q => Q true H
theorem pif_nil {X : Cx} : PIf X [] tYes := fun _ _ _ H _ I h => wpAny_tests_nil ⟨H, I, h⟩
theorem pif_one {X : Cx} {c : Expr} {t : TT} (h : PT X c t) : PIf X [c] t := fun pins s σ H Q I q => wpAny_tests_one (h pins s σ H Q I q)
def lcEnd (Q : VK) (ys : List V) (H : Hp) : Prop := ∀ p, H p = none → Q (.ref p) (upd H p (.lst ys))
def tLc (ix : List (Option Nat)) (wi : TI) (g : TG) (ti : TT) (te : TE) : TE := fun σ H Q => wi σ H fun J H1 => ∃ W : Nat → Nat → List V → St → Hp → Prop, (∃ m, W 0 m [] (blkSt ix σ) H1) ∧ ∀ i m ys σ H, W i m ys σ H →
  ys.length ≤ sizeLine ∧ ((J.stop i H ∧ lcEnd Q ys H) ∨
    (J.go i H ∧ ∃ N : List V → St → Hp → Prop, (∀ ys' σ' H', N ys' σ' H' → ∃ m', m' < m ∧ W (i + 1) m' ys' σ' H') ∧
      ∀ x H', J.yld i H x H' → g x σ H' fun σ2 H2 => ti σ2 H2 fun b H3 => if b = true then te σ2 H3 fun y H4 => N (ys ++ [y]) σ2 H4 else N ys σ2 H3))
structure Gone (X : Cx) (pins : List (Addr × Obj)) (H : Hp) (s : Shared) (C : Addr) : Prop where
  ns : ∃ m, s.heap.Ns C m
  fr : H C = none
  nl : C ≠ X.env.locals
  ab : X.s₀.heap.objs.size ≤ C
  nc : ∀ x c, X.env.cells.lookup x = some c → c ≠ C
  np : ∀ p ∈ X.pn ++ pins, p.1 ≠ C
section
variable {X : Cx}
theorem blk_run {scope : Scope} {N' : List Str} {ix : List (Option Nat)} {pins : List (Addr × Obj)} {σ : St} {tg iter elt : Expr} {ifs : List Expr} {pos : Pos} {g : TG} {ti : TT} {te : TE} {E : Value → Shared → Prop}
    (co : CompOk X.N X.env.scope scope N' ix) (hc : X.calm = true)
    (hg : ∀ C fp s₂ H₂, PG (blk X scope N' C fp s₂ H₂) tg g) (hi : ∀ C fp s₂ H₂, PIf (blk X scope N' C fp s₂ H₂) ifs ti) (he : ∀ C fp s₂ H₂, PE (blk X scope N' C fp s₂ H₂) elt te)
    {H₂ : Hp} {s₂ : Shared} {J : It} {fp : List Addr} {it : Addr} {tn : Nat → Heap → Prop} {QF : List V → Hp → Prop}
    (I : Inv X pins σ H₂ s₂) (T : Turn X.prog X.w X.K tg J fp it tn) (st : tn 0 s₂.heap) (hf : ∀ b ∈ fp, FpOk X pins H₂ b)
    {W : Nat → Nat → List V → St → Hp → Prop} (w0 : ∃ m, W 0 m [] (blkSt ix σ) H₂)
    (hW : ∀ i m ys σ H, W i m ys σ H → ys.length ≤ sizeLine ∧ ((J.stop i H ∧ QF ys H) ∨
      (J.go i H ∧ ∃ N : List V → St → Hp → Prop, (∀ ys' σ' H', N ys' σ' H' → ∃ m', m' < m ∧ W (i + 1) m' ys' σ' H') ∧
        ∀ x H', J.yld i H x H' → g x σ H' fun σ2 H2 => ti σ2 H2 fun b H3 => if b = true then te σ2 H3 fun y H4 => N (ys ++ [y]) σ2 H4 else N ys σ2 H3)))
    {RR : Value → Addr → Result → Shared → Prop}
    (hRR : ∀ D C ys H' s', Inv X pins σ (upd H' D (.lst ys)) s' → H' D = none → QF ys H' → Gone X pins (upd H' D (.lst ys)) s' C → RR (.ref D) C (.ok .next) s') :
    wpAny (model X.prog X.w) X.A (newList []) (fun acc s₃ => wpAny (model X.prog X.w) X.A (newFunctionEnv scope X.env.globals (clOf scope X.env) [] X.env.qual none .none (some X.env)) (fun cenv s₄ =>
      codeAny (model X.prog X.w) X.A (.compStart (.ListComp elt [⟨tg, iter, ifs, 0⟩] scope pos) 0 (.ref it) acc { cenv with scope := relabel scope X.env }) (RR acc cenv.locals) s₄) E s₃) E s₂ := by
  have hlt : ∀ b ∈ fp, @LT.lt Nat _ b s₂.heap.objs.size := fun b hb => by
    obtain ⟨o, e, _⟩ := T.obj _ _ st b hb
    exact Heap.lt_size e
  refine wpAny_newObj_type (wpAny_newFunctionEnv co.nocell (by intro y hy; simp at hy) (fun h₁ hns₁ hsb₁ => ?_) co.kind)
  dsimp only at hns₁ hsb₁ ⊢
  generalize hH2 : s₂.heap.push { cls := .type "list", dict := none, data := .seq ([] : List Value).toArray } = H2 at hns₁ hsb₁ ⊢
  have hC : @Eq Nat H2.objs.size (s₂.heap.objs.size + 1) := by rw [← hH2, Heap.size_push]
  have below : ∀ b : Nat, b < s₂.heap.objs.size → ¬ @Eq Nat b H2.objs.size := fun b hb => by omega
  have hDC : ¬ @Eq Nat s₂.heap.objs.size H2.objs.size := by omega
  have old : ∀ b o, s₂.heap.get? b = some o → h₁.get? b = some o := fun b o e => hsb₁.extBut b o (below b (Heap.lt_size e)) (Heap.get?_push_of_some _ (hH2 ▸ Heap.get?_push_of_some _ e))
  have hacc : h₁.get? s₂.heap.objs.size = some (lstO [] 0) := hsb₁.extBut _ _ hDC (Heap.get?_push_of_some _ (hH2 ▸ Heap.get?_push_size _ rfl))
  have st₁ : tn 0 h₁ := T.keep _ _ _ st fun b _ o e => old b o e
  generalize hCe : H2.objs.size = C at hns₁ hsb₁ hC below hDC ⊢
  generalize hDe : s₂.heap.objs.size = D at hacc hDC ⊢
  have loop : ∀ s₃ : Shared, s₃ = { s₂ with heap := h₁, toks := s₂.toks + ([] : List (Str × Value)).length } →
      codeAny (model X.prog X.w) X.A (.compLoop (.ListComp elt [⟨tg, iter, ifs, 0⟩] scope pos) 0 (.ref it) (.ref D) (compEnvC scope (clOf scope X.env) C X.env)) (RR (.ref D) C) s₃ := by
    rintro s₃ rfl
    obtain ⟨m0, w0⟩ := w0
    have I3 : Inv (blk X scope N' C fp s₂ H₂) [(D, lstO [] 0)] (blkSt ix σ) H₂ { s₂ with heap := h₁, toks := s₂.toks + ([] : List (Str × Value)).length } := blk_start I co hDe.symm hC hf hlt old hacc hns₁
    refine compLoop_own (fun k s' => ∃ i ys its n σ' H', Inv (blk X scope N' C fp s₂ H₂) [(D, lstO its n)] σ' H' s' ∧ Vals ys its ∧ tn i s'.heap ∧ (∀ b ∈ fp, H' b = none) ∧ W i k ys σ' H') ?_ m0
      ⟨0, [], [], 0, _, _, I3, .nil, st₁, fun b hb => (hf b hb).1, w0⟩
    rintro k s' ⟨i, ys, its, n, σ', H', I', hv, st', fr', w'⟩
    have fpok : ∀ {H' : Hp} {o : Obj}, (∀ b ∈ fp, H' b = none) → ∀ b ∈ fp, FpOk (blk X scope N' C fp s₂ H₂) [(D, o)] H' b := fun {H' o} hn b hb => by
      refine ⟨hn b hb, below b (hlt b hb), fun z => ?_, .inl hb, fun x c e => (hf b hb).2.2.2.2.1 x c (clOf_env e), fun p hp z => ?_⟩
      · rcases List.mem_cons.mp (I.stkSub b z) with e | e
        · exact (hf b hb).2.1 e
        · exact (hf b hb).2.2.1 e
      · have e : p = (D, o) := by simpa [blk] using hp
        subst e
        have z' : @Eq Nat D b := z
        have z2 := hlt b hb
        omega
    obtain ⟨hz, hW'⟩ := hW i k ys σ' H' w'
    rcases hW' with ⟨stop, q⟩ | ⟨go, N, hN, step⟩
    · refine thn (T.done (blk X scope N' C fp s₂ H₂) rfl rfl rfl hc i _ s' σ' H' NoE I' (fpok fr') st' stop) fun r s4 ⟨hr, I4⟩ => ?_
      subst hr
      obtain ⟨_, dn, _⟩ := I4.pin (D, lstO its n) (by simp)
      have cf : H' C = none := I4.free
      refine hRR D C ys H' s4 (blk_leave I hDe.symm hf I4 hv hz) dn q ⟨?_, by rw [upd_ne (Ne.symm hDC)]; exact cf, ?_, ?_, fun x c e => ?_, fun p hp => ?_⟩
      · obtain ⟨m, hn, _⟩ := I4.loc
        exact ⟨m, hn⟩
      · have z : @LT.lt Nat _ X.env.locals s₂.heap.objs.size := I.lt
        show ¬ @Eq Nat C X.env.locals
        omega
      · have z : @LE.le Nat _ X.s₀.heap.objs.size s₂.heap.objs.size := I.sz
        show @LE.le Nat _ X.s₀.heap.objs.size C
        omega
      · obtain ⟨v, z⟩ := I.cell x c e
        have z2 : @LT.lt Nat _ c s₂.heap.objs.size := z.lt
        show ¬ @Eq Nat c C
        omega
      · have z2 : @LT.lt Nat _ p.1 s₂.heap.objs.size := Heap.lt_size (I.pin p hp).1
        show ¬ @Eq Nat p.1 C
        omega
    · refine thn (T.item (blk X scope N' C fp s₂ H₂) rfl rfl rfl hc i _ s' σ' H' NoE I' (fpok fr') st' go) fun r s4 ⟨u, hr, h4⟩ => ?_
      subst hr
      refine thn h4 fun _ s5 ⟨x, H5, I5, r5, y5, st5, fr5⟩ => ?_
      have I5' := I5.pinned (fpok fr5) (T.obj _ _ st5)
      refine thn (hg C fp s₂ H₂ _ s5 σ' H5 x u _ I5' r5 (step x H5 y5)) fun _ s6 ⟨σ6, H6, I6, q6⟩ => ?_
      refine thn (hi C fp s₂ H₂ _ s6 σ6 H6 _ I6 q6) fun ok s7 ⟨H7, I7, q7⟩ => ?_
      have fpin : ∀ {σ8 : St} {H8 : Hp} {s8 : Shared}, Inv (blk X scope N' C fp s₂ H₂) ([(D, lstO its n)] ++ pinsAt fp s5.heap) σ8 H8 s8 → ∀ b ∈ fp, ∀ o, s5.heap.get? b = some o → s8.heap.get? b = some o ∧ H8 b = none := fun {σ8 H8 s8} I8 b hb o e => by
        have z := I8.pin (b, o) (List.mem_append_right _ (List.mem_append_right _ (mem_pinsAt hb e)))
        exact ⟨z.1, z.2.1⟩
      cases ok with
      | false =>
        have q7' : N ys σ6 H7 := by
          have q7' := q7
          rw [if_neg Bool.false_ne_true] at q7'
          exact q7'
        obtain ⟨m', hm, w7⟩ := hN _ _ _ q7'
        refine ⟨m', hm, i + 1, ys, its, n, σ6, H7, I7.unpinned, hv, T.keep _ _ _ st5 fun b hb o e => (fpin I7 b hb o e).1, fun b hb => ?_, w7⟩
        obtain ⟨o, e, _⟩ := T.obj _ _ st5 b hb
        exact (fpin I7 b hb o e).2
      | true =>
        have q7' : te σ6 H7 fun y H4 => N (ys ++ [y]) σ6 H4 := by
          have q7' := q7
          rw [if_pos rfl] at q7'
          exact q7'
        show wpAny _ _ _ _ _ _
        refine thn (he C fp s₂ H₂ _ s7 σ6 H7 _ I7 q7') fun yv s8 ⟨y, H8, I8, r8, q8⟩ => ?_
        obtain ⟨m', hm, w8⟩ := hN _ _ _ q8
        obtain ⟨z1, z2, z3, z4, z5⟩ := I8.pin (D, lstO its n) (by simp)
        have zD : s8.heap.get? D = some (lstO its n) := z1
        have lenv := hv.length
        refine append_at (hsz := by rw [List.size_toArray]; omega) zD fun h9 hs9 hD9 => ?_
        have I8' : Inv (blk X scope N' C fp s₂ H₂) (pinsAt fp s5.heap) σ6 H8 s8 := I8.pins_of fun p hp => I8.pin p (List.mem_append_right _ (List.mem_append_right _ hp))
        have I9 : Inv (blk X scope N' C fp s₂ H₂) (pinsAt fp s5.heap) σ6 H8 { s8 with heap := h9 } := I8'.turned (it := D) (t' := s8.toks) (fun b o hb e => (hs9.2 b hb).trans e) z2 z3
          (.inr (by show s₂.heap.objs.size ≤ D; omega)) (fun x c e => by have z : @LT.lt Nat _ c s₂.heap.objs.size := blk_cells (scope := scope) I e; show ¬ @Eq Nat c D; omega) (fun p hp => by
            have hp' : p ∈ pinsAt fp s5.heap := by simpa [blk] using hp
            have z := hlt _ (of_pinsAt hp').1
            show ¬ @Eq Nat p.1 D
            omega)
        have hD9' : h9.get? D = some (lstO (its ++ [yv]) (n + 1)) := by
          rw [hD9]
          simp [lstO]
        have I10 : Inv (blk X scope N' C fp s₂ H₂) [(D, lstO (its ++ [yv]) (n + 1))] σ6 H8 { s8 with heap := h9 } := I9.pins_of fun p hp => by
          have e : p = (D, lstO (its ++ [yv]) (n + 1)) := by simpa using hp
          subst e
          refine ⟨hD9', z2, z3, z4, fun v z => ?_⟩
          have z' : Data.seq _ _ = Data.cell v := z
          cases z'
        refine ⟨m', hm, i + 1, ys ++ [y], its ++ [yv], n + 1, σ6, H8, I10, hv.append (.cons r8 .nil), T.keep _ _ _ st5 fun b hb o e => ?_, fun b hb => ?_, w8⟩
        · have hbD : b ≠ D := by
            have z := hlt b hb
            show ¬ @Eq Nat b D
            omega
          exact (hs9.2 b hbD).trans (fpin I8 b hb o e).1
        · obtain ⟨o, e, _⟩ := T.obj _ _ st5 b hb
          exact (fpin I8 b hb o e).2
  exact codeAny_compStart_list (loop _ rfl) (T.self _ 0 _ _ _ st₁ (loop _ rfl))
theorem Gone.go {pins : List (Addr × Obj)} {σ : St} {H : Hp} {s : Shared} {C : Addr} {h' : Heap} (G : Gone X pins H s C) (I : Inv X pins σ H s) (hs : Heap.SameBut C s.heap h') : Inv X pins σ H { s with heap := h' } :=
  I.turned (it := C) (t' := s.toks) (fun b o hb e => (hs.2 b hb).trans e) G.fr G.nl (.inr G.ab) G.nc G.np
variable {scope : Scope} {N' : List Str} {ix : List (Option Nat)} {tg iter elt : Expr} {ifs : List Expr} {pos : Pos} {wi : TI} {g : TG} {ti : TT} {te : TE}
theorem comp_clos (co : CompOk X.N X.env.scope scope N' ix) {pins : List (Addr × Obj)} {σ : St} {H : Hp} {s : Shared} (I : Inv X pins σ H s) : closureFor scope X.env = pure (clOf scope X.env) :=
  closure_is fun p hp e => I.ok.has p.1 (co.frees p hp e)
theorem pe_lcomp (co : CompOk X.N X.env.scope scope N' ix) (hc : X.calm = true) (hit : PI X tg iter wi) (hg : ∀ C fp s₂ H₂, PG (blk X scope N' C fp s₂ H₂) tg g) (hi : ∀ C fp s₂ H₂, PIf (blk X scope N' C fp s₂ H₂) ifs ti)
    (he : ∀ C fp s₂ H₂, PE (blk X scope N' C fp s₂ H₂) elt te) (hs : ∀ x, foldedSetIterable iter X.env x = pure x := by intro _; rfl) :
    PE X (.ListComp elt [⟨tg, iter, ifs, 0⟩] scope pos) (tLc ix wi g ti te) := by
  intro pins s σ H Q I h
  rw [eval_ListComp]
  refine wpAny_comprehension_free (use := none) rfl hs (comp_clos co I) co.kind co.names (thn (hit pins s σ H _ I h) fun xv s₁ h₁ => thn h₁ fun itv s₂ h₂ => ?_)
  obtain ⟨it, fp, tn, J, H₂, e, I₂, T, st, hf, W, w0, hW⟩ := h₂
  subst e
  refine blk_run co hc hg hi he I₂ T st hf w0 hW (RR := fun acc C => compPost (model X.prog X.w) X.A X.xe none (EP X pins σ Q) acc C) fun D C ys H' s' I' dn q G => ?_
  obtain ⟨m, hn⟩ := G.ns
  exact ⟨m, hn, fun h' hs' => ⟨.ref D, _, G.go I' hs', rfl, q D dn⟩⟩
end
theorem lc_list {K : PySem.W.Frag} {a : Addr} {xs : List V} {g : TG} {ti : TT} {te : TE} {σ0 : St} {H0 : Hp} {Q : VK} (Pv : Nat → List V → St → Hp → Prop) (h0 : Pv 0 [] σ0 H0)
    (hl : ∀ i ys σ H, i ≤ xs.length → Pv i ys σ H → SqL K H a xs ∧ ys.length ≤ sizeLine)
    (hs : ∀ i x ys σ H, xs[i]? = some x → Pv i ys σ H → g x σ H fun σ2 H2 => ti σ2 H2 fun b H3 => if b = true then te σ2 H3 fun y H4 => Pv (i + 1) (ys ++ [y]) σ2 H4 else Pv (i + 1) ys σ2 H3)
    (hd : ∀ ys σ H, Pv xs.length ys σ H → ∀ p, H p = none → Q (.ref p) (upd H p (.lst ys))) :
    ∃ W : Nat → Nat → List V → St → Hp → Prop, (∃ m, W 0 m [] σ0 H0) ∧ ∀ i m ys σ H, W i m ys σ H →
      ys.length ≤ sizeLine ∧ (((Itl K a).stop i H ∧ lcEnd Q ys H) ∨
        ((Itl K a).go i H ∧ ∃ N : List V → St → Hp → Prop, (∀ ys' σ' H', N ys' σ' H' → ∃ m', m' < m ∧ W (i + 1) m' ys' σ' H') ∧
          ∀ x H', (Itl K a).yld i H x H' → g x σ H' fun σ2 H2 => ti σ2 H2 fun b H3 => if b = true then te σ2 H3 fun y H4 => N (ys ++ [y]) σ2 H4 else N ys σ2 H3)) := by
  refine ⟨fun i m ys σ H => m = xs.length - i ∧ i ≤ xs.length ∧ Pv i ys σ H, ⟨xs.length, by simp, Nat.zero_le _, h0⟩, ?_⟩
  rintro i m ys σ H ⟨rfl, hi, p⟩
  obtain ⟨q, hz⟩ := hl i ys σ H hi p
  refine ⟨hz, ?_⟩
  by_cases hlt : i < xs.length
  · refine .inr ⟨⟨xs, xs[i], q, by simp [hlt]⟩, Pv (i + 1), fun ys' σ' H' p' => ⟨xs.length - (i + 1), by omega, rfl, hlt, p'⟩, fun x H' y => ?_⟩
    obtain ⟨e, y⟩ := y
    subst e
    exact hs i x ys σ _ (y xs q) p
  · have e : i = xs.length := by omega
    subst e
    exact .inl ⟨⟨xs, q, Nat.le_refl _⟩, hd ys σ H p⟩
end L2
namespace L2
open PySem PySem.Spec PyProof.Rows
section
variable {X : Cx}
theorem call_isinst : CallR X (.builtin "isinstance") (fun xs H Q => ∃ x t T b, xs = [x, .ty T] ∧ TyOf X.K H x t ∧ PySem.W.kitOne X.K t (.type T) = some b ∧ Q (.bl b) H) := by
  intro pins s σ H xs us Q I r h
  obtain ⟨x, t, T, b, rfl, ty, e, q⟩ := h
  obtain ⟨u, w, rfl, r1, r2⟩ := vals2 r
  obtain rfl : w = Value.type T := r2
  exact isinst_ok I r1 ty e fun tk => ⟨.bl b, H, I.tok tk, rfl, q⟩
theorem walks_list {A : Around} {s : Shared} {p : Addr} {its : List Value} (hh : A.handled = none) (hl : s.heap.IsList p its.toArray) :
    ∃ (fp : List Addr), (∀ b ∈ fp, b < s.heap.objs.size + 1) ∧ Walks X.prog X.w A s.heap.objs.size fp [s.heap.objs.size] its.toArray.size (fun i v => its.toArray[i]? = some v) (fun i h => h.IsListIter s.heap.objs.size p i ∧ h.IsList p its.toArray) ∧
      ((s.heap.push { cls := .type "list_iterator", data := .fields #[.ref p, .int 0 0] }).IsListIter s.heap.objs.size p 0 ∧ (s.heap.push { cls := .type "list_iterator", data := .fields #[.ref p, .int 0 0] }).IsList p its.toArray) := by
  have hlt : p < s.heap.objs.size := by obtain ⟨_, e, _⟩ := hl; exact Heap.lt_size e
  refine ⟨[s.heap.objs.size, p], fun b hb => ?_, Walks.list (A := A) hh _ p (Nat.ne_of_lt hlt) its.toArray, ⟨_, Heap.get?_push_size _ rfl, rfl, rfl⟩, hl.push _⟩
  rcases List.mem_cons.mp hb with e | e
  · rw [e]; exact Nat.lt_succ_self _
  · rw [List.mem_singleton.mp e]; exact Nat.lt_succ_of_lt hlt
theorem kept_iter' {s : Shared} {h' : Heap} {o : Obj} (hk : ∀ b x, b ∉ [s.heap.objs.size] → (s.heap.push o).get? b = some x → h'.get? b = some x) : ∀ b x, s.heap.get? b = some x → h'.get? b = some x :=
  fun b x e => hk b x (fun hm => by rw [List.mem_singleton.mp hm] at e; exact Nat.lt_irrefl _ (Heap.lt_size e)) (Heap.get?_push_of_some _ e)
theorem vals_bl : ∀ {bs : List Bool} {us : List Value}, Vals (bs.map V.bl) us → us = bs.map Value.bool
  | [], us, h => by
    rw [List.map_nil] at h
    cases h
    rfl
  | b :: bs, us, h => by
    rw [List.map_cons] at h
    cases h with
    | cons r1 r2 =>
      cases r1
      rw [vals_bl r2, List.map_cons]
theorem truth_bl {A : Around} (bs : List Bool) (d : Bool) : ∀ (i : Nat) (v : Value) (s' : Shared) (Q' : Bool → Shared → Prop) (E' : Value → Shared → Prop), (bs.map Value.bool).toArray[i]? = some v → Q' ((bs[i]?).getD d) s' → wpAny (model X.prog X.w) A (truthy v) Q' E' s' :=
  fun i v s' Q' E' hP hQ => by
    have e : (bs.map Value.bool)[i]? = some v := by simpa using hP
    rw [List.getElem?_map] at e
    cases q : bs[i]? with
    | none => rw [q] at e; cases e
    | some b =>
      rw [q] at e hQ
      have e' : Value.bool b = v := Option.some.inj e
      subst e'
      exact wpAny_truthy_bool hQ
theorem call_all (hc : X.calm = true) : CallR X (.builtin "all") (fun xs H Q => ∃ (p : Addr) (bs : List Bool), xs = [.ref p] ∧ SqL X.K H p (bs.map V.bl) ∧ Q (.bl (bs.all id)) H) := by
  intro pins s σ H xs us Q I r h
  obtain ⟨p, bs, rfl, hq, q⟩ := h
  obtain ⟨u, rfl, rx⟩ := vals1 r
  cases rx
  obtain ⟨its, r', pl, hz⟩ := I.list hq
  have ei := vals_bl r'
  subst ei
  obtain ⟨fp, hfp, W, st⟩ := walks_list (X := X) (A := X.A.in1) (s := s) (I.ok.hd hc) pl.isList
  refine call_all_walk (wpAny_pyIter_list pl.isList ⟨_, fp, _, _, _, _, fun i => (bs[i]?).getD true, rfl, W, st, truth_bl bs true, fun h' tk hk => ?_⟩)
  have e : ((List.range (bs.map Value.bool).toArray.size).all fun i => (bs[i]?).getD true) = bs.all id := by
    rw [List.size_toArray, List.length_map]; exact LSm.range_all bs
  rw [e]
  exact ⟨.bl (bs.all id), H, I.kept (t' := tk) (kept_iter' hk), rfl, q⟩
theorem call_sum (hc : X.calm = true) : CallR X (.builtin "sum") (fun xs H Q => ∃ (p : Addr) (ns : List Int), xs = [.ref p] ∧ SqL X.K H p (ns.map V.int) ∧ Q (.int ns.sum) H) := by
  intro pins s σ H xs us Q I r h
  obtain ⟨p, ns, rfl, hq, q⟩ := h
  obtain ⟨u, rfl, rx⟩ := vals1 r
  cases rx
  obtain ⟨its, r', pl, hz⟩ := I.list hq
  have hi := intsAre_of r'
  obtain ⟨ms, hx⟩ := hi.allInts.items
  have hl' : s.heap.IsList p (intItems ms) := hx ▸ pl.isList
  refine sum_intListG (I.ok.hd hc) hl' fun h' tk t' hk => ?_
  have e1 : ns = ms.toList.map (·.1) := by
    rw [← nums_intItems, ← hx]
    exact (show numsOf its.toArray.toList = ns from hi.numsOf).symm
  have e2 : preSum (numAt ms) ms.size = ns.sum := by
    rw [preSum_eq, List.take_of_length_le (by simp), e1]
  rw [e2]
  exact ⟨.int ns.sum, H, I.kept (t' := tk) hk, ⟨t', rfl⟩, q⟩
end
end L2
namespace L2
open PySem PySem.Spec PyProof.Rows
inductive Dt where
  | non | bl (b : Bool) | int (i : Int) | str (x : Str) | tup (ds : List Dt) | lst (ds : List Dt)
mutual
def HasD (K : PySem.W.Frag) (H : Hp) : Dt → V → Prop
  | .non, v => v = .non
  | .bl b, v => v = .bl b
  | .int i, v => v = .int i
  | .str x, v => v = .str x
  | .tup ds, v => ∃ a xs, v = .ref a ∧ SqT K H a xs ∧ HasDs K H ds xs
  | .lst ds, v => ∃ a xs, v = .ref a ∧ SqL K H a xs ∧ HasDs K H ds xs
def HasDs (K : PySem.W.Frag) (H : Hp) : List Dt → List V → Prop
  | [], xs => xs = []
  | d :: ds, xs => ∃ x r, xs = x :: r ∧ HasD K H d x ∧ HasDs K H ds r
end
mutual
def eqD : Dt → Dt → Bool
  | .non, .non => true
  | .bl a, .bl b => a == b
  | .bl a, .int b => (if a then 1 else 0) == b
  | .int a, .bl b => a == (if b then 1 else 0)
  | .int a, .int b => a == b
  | .str a, .str b => a == b
  | .tup as, .tup bs => eqDs as bs
  | .lst as, .lst bs => eqDs as bs
  | _, _ => false
def eqDs : List Dt → List Dt → Bool
  | [], [] => true
  | a :: as, b :: bs => eqD a b && eqDs as bs
  | _, _ => false
end
mutual
def depD : Dt → Nat
  | .tup ds => depDs ds + 1
  | .lst ds => depDs ds + 1
  | _ => 0
def depDs : List Dt → Nat
  | [] => 0
  | d :: ds => max (depD d) (depDs ds)
end
def eqAtI (ds es : List Dt) (j : Nat) : Bool := match ds[j]?, es[j]? with
  | some a, some b => eqD a b
  | _, _ => true
theorem range_eqDs : ∀ (ds es : List Dt), ((List.range (min ds.length es.length)).all (eqAtI ds es) && (ds.length == es.length)) = eqDs ds es
  | [], [] => by simp [eqDs]
  | [], e :: es => by simp [eqDs]
  | d :: ds, [] => by simp [eqDs]
  | d :: ds, e :: es => by
    have ih := range_eqDs ds es
    have e1 : min (d :: ds).length (e :: es).length = min ds.length es.length + 1 := by simp only [List.length_cons]; omega
    have e2 : ((d :: ds).length == (e :: es).length) = (ds.length == es.length) := by simp
    have e3 : (eqAtI (d :: ds) (e :: es) ∘ Nat.succ) = eqAtI ds es := by funext j; simp [eqAtI, Function.comp]
    have e4 : eqAtI (d :: ds) (e :: es) 0 = eqD d e := by simp [eqAtI]
    rw [e1, e2, List.range_succ_eq_map, List.all_cons, List.all_map, e3, e4, Bool.and_assoc, ih, eqDs]
theorem HasDs.length {K : PySem.W.Frag} {H : Hp} : ∀ {ds : List Dt} {xs : List V}, HasDs K H ds xs → ds.length = xs.length
  | [], xs, h => by
    rw [HasDs] at h
    rw [h]
    rfl
  | d :: ds, xs, h => by
    rw [HasDs] at h
    obtain ⟨x, r, rfl, _, h2⟩ := h
    rw [List.length_cons, List.length_cons, HasDs.length h2]
theorem HasDs.get {K : PySem.W.Frag} {H : Hp} : ∀ {ds : List Dt} {xs : List V} {j : Nat} {x : V}, HasDs K H ds xs → xs[j]? = some x → ∃ d, ds[j]? = some d ∧ HasD K H d x
  | [], xs, j, x, h, e => by
    rw [HasDs] at h
    subst h
    simp at e
  | d :: ds, xs, j, x, h, e => by
    rw [HasDs] at h
    obtain ⟨y, r, rfl, h1, h2⟩ := h
    cases j with
    | zero =>
      have e' : y = x := by simpa using e
      subst e'
      exact ⟨d, by simp, h1⟩
    | succ j =>
      obtain ⟨d', q1, q2⟩ := HasDs.get (j := j) h2 (by simpa using e)
      exact ⟨d', by simpa using q1, q2⟩
theorem dep_get : ∀ {ds : List Dt} {j : Nat} {d : Dt}, ds[j]? = some d → depD d ≤ depDs ds
  | [], j, d, e => by simp at e
  | c :: ds, j, d, e => by
    rw [depDs]
    cases j with
    | zero =>
      have e' : c = d := by simpa using e
      subst e'
      exact Nat.le_max_left _ _
    | succ j => exact Nat.le_trans (dep_get (j := j) (by simpa using e)) (Nat.le_max_right _ _)
section
variable {X : Cx} {pins : List (Addr × Obj)} {σ : St} {H : Hp} {s : Shared}
theorem list_not_tuple (I : Inv X pins σ H s) {a : Addr} {xs ys : List V} (h : SqL X.K H a xs) (h' : SqT X.K H a ys) : False := by
  obtain ⟨_, _, p, _⟩ := I.list h
  obtain ⟨_, _, q, _⟩ := I.tuple h'
  obtain ⟨o, e, c, _⟩ := p.isList
  obtain ⟨o', e', c', _⟩ := q
  rw [e] at e'
  cases e'
  rw [c] at c'
  exact absurd c' (by decide)
mutual
theorem hasD_same (I : Inv X pins σ H s) : ∀ (d e : Dt) (x : V), HasD X.K H d x → HasD X.K H e x → eqD d e = true
  | .non, e, x, h, k => by
    rw [HasD] at h
    subst h
    cases e <;> rw [HasD] at k <;> first | (obtain ⟨_, _, z, _⟩ := k; cases z) | rfl | cases k
  | .bl b, e, x, h, k => by
    rw [HasD] at h
    subst h
    cases e <;> rw [HasD] at k <;> first | (obtain ⟨_, _, z, _⟩ := k; cases z) | (cases k; simp [eqD]; done) | cases k
  | .int b, e, x, h, k => by
    rw [HasD] at h
    subst h
    cases e <;> rw [HasD] at k <;> first | (obtain ⟨_, _, z, _⟩ := k; cases z) | (cases k; simp [eqD]; done) | cases k
  | .str b, e, x, h, k => by
    rw [HasD] at h
    subst h
    cases e <;> rw [HasD] at k <;> first | (obtain ⟨_, _, z, _⟩ := k; cases z) | (cases k; simp [eqD]; done) | cases k
  | .tup ds, e, x, h, k => by
    rw [HasD] at h
    obtain ⟨a, xs, rfl, h1, h2⟩ := h
    cases e with
    | tup es =>
      rw [HasD] at k
      obtain ⟨b, ys, z, k1, k2⟩ := k
      cases z
      have e := I.tuple_inj k1 h1
      subst e
      rw [eqD]
      exact hasDs_same I ds es _ h2 k2
    | lst es =>
      rw [HasD] at k
      obtain ⟨b, ys, z, k1, k2⟩ := k
      cases z
      exact (list_not_tuple I k1 h1).elim
    | non => rw [HasD] at k; cases k
    | bl b => rw [HasD] at k; cases k
    | int b => rw [HasD] at k; cases k
    | str b => rw [HasD] at k; cases k
  | .lst ds, e, x, h, k => by
    rw [HasD] at h
    obtain ⟨a, xs, rfl, h1, h2⟩ := h
    cases e with
    | lst es =>
      rw [HasD] at k
      obtain ⟨b, ys, z, k1, k2⟩ := k
      cases z
      have e := I.list_inj k1 h1
      subst e
      rw [eqD]
      exact hasDs_same I ds es _ h2 k2
    | tup es =>
      rw [HasD] at k
      obtain ⟨b, ys, z, k1, k2⟩ := k
      cases z
      exact (list_not_tuple I h1 k1).elim
    | non => rw [HasD] at k; cases k
    | bl b => rw [HasD] at k; cases k
    | int b => rw [HasD] at k; cases k
    | str b => rw [HasD] at k; cases k
theorem hasDs_same (I : Inv X pins σ H s) : ∀ (ds es : List Dt) (xs : List V), HasDs X.K H ds xs → HasDs X.K H es xs → eqDs ds es = true
  | [], es, xs, h, k => by
    rw [HasDs] at h
    subst h
    cases es with
    | nil => rw [eqDs]
    | cons e es =>
      rw [HasDs] at k
      obtain ⟨_, _, z, _⟩ := k
      cases z
  | d :: ds, es, xs, h, k => by
    rw [HasDs] at h
    obtain ⟨x, r, rfl, h1, h2⟩ := h
    cases es with
    | nil => rw [HasDs] at k; cases k
    | cons e es =>
      rw [HasDs] at k
      obtain ⟨y, r', z, k1, k2⟩ := k
      cases z
      rw [eqDs, hasD_same I d e _ h1 k1, hasDs_same I ds es _ h2 k2]
      rfl
end
theorem items_eqAt {A : Around} {ds es : List Dt} {xs ys : List V} {is js : List Value} (hd : HasDs X.K H ds xs) (he : HasDs X.K H es ys) (vi : Vals xs is) (vj : Vals ys js)
    (rec : ∀ d e x y u v, d ∈ ds → depD d ≤ depDs ds → HasD X.K H d x → HasD X.K H e y → RelV x u → RelV y v → SeqAt.EqAt A s u v (eqD d e)) :
    ∀ j (h1 : j < is.toArray.size) (h2 : j < js.toArray.size), SeqAt.EqAt A s is.toArray[j] js.toArray[j] (eqAtI ds es j) := fun j h1 h2 => by
  have h1' : j < is.length := by simpa using h1
  have h2' : j < js.length := by simpa using h2
  have lx : j < xs.length := by rw [vi.length]; exact h1'
  have ly : j < ys.length := by rw [vj.length]; exact h2'
  obtain ⟨u, eu, ru⟩ := vi.get (i := j) (x := xs[j]) (by simp [lx])
  obtain ⟨v, ev, rv⟩ := vj.get (i := j) (x := ys[j]) (by simp [ly])
  obtain ⟨d, ed, kd⟩ := hd.get (j := j) (x := xs[j]) (by simp [lx])
  obtain ⟨e, ee, ke⟩ := he.get (j := j) (x := ys[j]) (by simp [ly])
  have e1 : is.toArray[j] = u := by
    rw [List.getElem?_eq_getElem h1'] at eu
    simpa using eu
  have e2 : js.toArray[j] = v := by
    rw [List.getElem?_eq_getElem h2'] at ev
    simpa using ev
  have e3 : eqAtI ds es j = eqD d e := by simp [eqAtI, ed, ee]
  rw [e1, e2, e3]
  exact rec d e _ _ u v (List.mem_of_getElem? ed) (dep_get ed) kd ke ru rv
theorem same_len {ds es : List Dt} {xs ys : List V} {is js : List Value} (hd : HasDs X.K H ds xs) (he : HasDs X.K H es ys) (vi : Vals xs is) (vj : Vals ys js) : ds.length = is.toArray.size ∧ es.length = js.toArray.size := by
  rw [hd.length, he.length, vi.length, vj.length]
  simp
theorem lists_all {ds es : List Dt} (h : ds.length = es.length) : (List.range ds.length).all (eqAtI ds es) = eqDs ds es := by
  have q := range_eqDs ds es
  rw [← h, Nat.min_self, beq_self_eq_true, Bool.and_true] at q
  exact q
theorem lists_no {ds es : List Dt} (h : ds.length ≠ es.length) : eqDs ds es = false := by
  have q := range_eqDs ds es
  rw [show (ds.length == es.length) = false from by simpa using h, Bool.and_false] at q
  exact q.symm
theorem eqAt_D (I : Inv X pins σ H s) : ∀ (n : Nat) (d e : Dt) (x y : V) (u v : Value) (A : Around), depD d ≤ n → A.units + n < cLine → HasD X.K H d x → HasD X.K H e y → RelV x u → RelV y v → SeqAt.EqAt A s u v (eqD d e) := by
  intro n
  induction n with
  | zero =>
    intro d e x y u v A hn hu hd he ru rv
    have hu' : A.units < cLine := by omega
    cases d with
    | tup ds => rw [depD] at hn; omega
    | lst ds => rw [depD] at hn; omega
    | non =>
      rw [HasD] at hd; subst hd; cases ru
      cases e <;> rw [HasD] at he
      case non => subst he; cases rv; exact SeqAt.EqAt.same _
      case bl b => subst he; cases rv; exact SeqAt.EqAt.none_bool b
      case int b => subst he; obtain ⟨t, rfl⟩ := rv; exact SeqAt.EqAt.none_int b t
      case str b => subst he; obtain ⟨t, rfl⟩ := rv; exact SeqAt.EqAt.none_str b t
      case tup es => obtain ⟨b, ys, rfl, k1, k2⟩ := he; cases rv; obtain ⟨js, vj, pj, _⟩ := I.tuple k1; exact SeqAt.EqAt.none_tuple pj hu'
      case lst es => obtain ⟨b, ys, rfl, k1, k2⟩ := he; cases rv; obtain ⟨js, vj, pj, _⟩ := I.list k1; exact SeqAt.EqAt.none_list pj.isList hu'
    | bl a =>
      rw [HasD] at hd; subst hd; cases ru
      cases e <;> rw [HasD] at he
      case non => subst he; cases rv; exact SeqAt.EqAt.bool_none a
      case bl b => subst he; cases rv; exact SeqAt.EqAt.bool_bool a b
      case int b => subst he; obtain ⟨t, rfl⟩ := rv; exact SeqAt.EqAt.bool_int a b t
      case str b => subst he; obtain ⟨t, rfl⟩ := rv; exact SeqAt.EqAt.bool_str a b t
      case tup es => obtain ⟨b, ys, rfl, k1, k2⟩ := he; cases rv; obtain ⟨js, vj, pj, _⟩ := I.tuple k1; exact SeqAt.EqAt.bool_tuple a pj hu'
      case lst es => obtain ⟨b, ys, rfl, k1, k2⟩ := he; cases rv; obtain ⟨js, vj, pj, _⟩ := I.list k1; exact SeqAt.EqAt.bool_list a pj.isList hu'
    | int a =>
      rw [HasD] at hd; subst hd; obtain ⟨t0, rfl⟩ := ru
      cases e <;> rw [HasD] at he
      case non => subst he; cases rv; exact SeqAt.EqAt.int_none a t0
      case bl b => subst he; cases rv; exact SeqAt.EqAt.int_bool a t0 b
      case int b => subst he; obtain ⟨t, rfl⟩ := rv; exact SeqAt.EqAt.int_int a t0 b t
      case str b => subst he; obtain ⟨t, rfl⟩ := rv; exact SeqAt.EqAt.int_str a t0 b t
      case tup es => obtain ⟨b, ys, rfl, k1, k2⟩ := he; cases rv; obtain ⟨js, vj, pj, _⟩ := I.tuple k1; exact SeqAt.EqAt.int_tuple a t0 pj hu'
      case lst es => obtain ⟨b, ys, rfl, k1, k2⟩ := he; cases rv; obtain ⟨js, vj, pj, _⟩ := I.list k1; exact SeqAt.EqAt.int_list a t0 pj.isList hu'
    | str a =>
      rw [HasD] at hd; subst hd; obtain ⟨t0, rfl⟩ := ru
      cases e <;> rw [HasD] at he
      case non => subst he; cases rv; exact SeqAt.EqAt.str_none a t0
      case bl b => subst he; cases rv; exact SeqAt.EqAt.str_bool a t0 b
      case int b => subst he; obtain ⟨t, rfl⟩ := rv; exact SeqAt.EqAt.str_int a t0 b t
      case str b => subst he; obtain ⟨t, rfl⟩ := rv; exact SeqAt.EqAt.str_str a t0 b t
      case tup es => obtain ⟨b, ys, rfl, k1, k2⟩ := he; cases rv; obtain ⟨js, vj, pj, _⟩ := I.tuple k1; exact SeqAt.EqAt.str_tuple a t0 pj hu'
      case lst es => obtain ⟨b, ys, rfl, k1, k2⟩ := he; cases rv; obtain ⟨js, vj, pj, _⟩ := I.list k1; exact SeqAt.EqAt.str_list a t0 pj.isList hu'
  | succ n ih =>
    intro d e x y u v A hn hu hd he ru rv
    have hu' : A.units < cLine := by omega
    have hu1 : A.in1.units + n < cLine := by rw [units_in1]; omega
    cases d with
    | tup ds =>
      rw [depD] at hn
      have hd0 := hd
      rw [HasD] at hd
      obtain ⟨a, xs, rfl, k1, k2⟩ := hd
      cases ru
      obtain ⟨is, vi, pi, _⟩ := I.tuple k1
      cases e with
      | tup es =>
        have he0 := he
        rw [HasD] at he
        obtain ⟨b, ys, rfl, l1, l2⟩ := he
        cases rv
        obtain ⟨js, vj, pj, _⟩ := I.tuple l1
        by_cases hab : a = b
        · subst hab
          rw [hasD_same I _ _ _ hd0 he0]
          exact SeqAt.EqAt.same _
        · have q := SeqAt.RcAt.tuples (A := A) pi pj hu' (items_eqAt k2 l2 vi vj fun d e x y u v _ hdd => ih d e x y u v A.in1 (by omega) hu1)
          obtain ⟨z1, z2⟩ := same_len k2 l2 vi vj
          rw [← z1, ← z2, range_eqDs] at q
          rw [eqD]
          exact SeqAt.EqAt.of_refs hab q
      | lst es => rw [HasD] at he; obtain ⟨b, ys, rfl, l1, l2⟩ := he; cases rv; obtain ⟨js, vj, pj, _⟩ := I.list l1; exact SeqAt.EqAt.tuple_list pi pj.isList hu'
      | non => rw [HasD] at he; subst he; cases rv; exact SeqAt.EqAt.tuple_none pi hu'
      | bl b => rw [HasD] at he; subst he; cases rv; exact SeqAt.EqAt.tuple_bool b pi hu'
      | int b => rw [HasD] at he; subst he; obtain ⟨t, rfl⟩ := rv; exact SeqAt.EqAt.tuple_int b t pi hu'
      | str b => rw [HasD] at he; subst he; obtain ⟨t, rfl⟩ := rv; exact SeqAt.EqAt.tuple_str b t pi hu'
    | lst ds =>
      rw [depD] at hn
      have hd0 := hd
      rw [HasD] at hd
      obtain ⟨a, xs, rfl, k1, k2⟩ := hd
      cases ru
      obtain ⟨is, vi, pi, _⟩ := I.list k1
      cases e with
      | lst es =>
        have he0 := he
        rw [HasD] at he
        obtain ⟨b, ys, rfl, l1, l2⟩ := he
        cases rv
        obtain ⟨js, vj, pj, _⟩ := I.list l1
        obtain ⟨z1, z2⟩ := same_len k2 l2 vi vj
        by_cases hab : a = b
        · subst hab
          rw [hasD_same I _ _ _ hd0 he0]
          exact SeqAt.EqAt.same _
        · rw [eqD]
          by_cases hsz : ds.length = es.length
          · have q := SeqAt.RcAt.lists (A := A) pi.isList pj.isList (by omega) hu' (items_eqAt k2 l2 vi vj fun d e x y u v _ hdd => ih d e x y u v A.in1 (by omega) hu1)
            rw [← z1, lists_all hsz] at q
            exact SeqAt.EqAt.of_refs hab q
          · rw [lists_no hsz]
            exact SeqAt.EqAt.of_refs hab (SeqAt.RcAt.lists_lengths pi.isList pj.isList (by rw [← z1, ← z2]; simpa using hsz) hu')
      | tup es => rw [HasD] at he; obtain ⟨b, ys, rfl, l1, l2⟩ := he; cases rv; obtain ⟨js, vj, pj, _⟩ := I.tuple l1; exact SeqAt.EqAt.list_tuple pi.isList pj hu'
      | non => rw [HasD] at he; subst he; cases rv; exact SeqAt.EqAt.list_none pi.isList hu'
      | bl b => rw [HasD] at he; subst he; cases rv; exact SeqAt.EqAt.list_bool b pi.isList hu'
      | int b => rw [HasD] at he; subst he; obtain ⟨t, rfl⟩ := rv; exact SeqAt.EqAt.list_int b t pi.isList hu'
      | str b => rw [HasD] at he; subst he; obtain ⟨t, rfl⟩ := rv; exact SeqAt.EqAt.list_str b t pi.isList hu'
    | non => exact ih _ _ _ _ _ _ _ (Nat.zero_le n) (by omega) hd he ru rv
    | bl b => exact ih _ _ _ _ _ _ _ (Nat.zero_le n) (by omega) hd he ru rv
    | int b => exact ih _ _ _ _ _ _ _ (Nat.zero_le n) (by omega) hd he ru rv
    | str b => exact ih _ _ _ _ _ _ _ (Nat.zero_le n) (by omega) hd he ru rv
end
end L2
namespace L2
open PySem PySem.Spec PyProof.Rows
section
variable {X : Cx} {pins : List (Addr × Obj)} {σ : St} {H : Hp} {s : Shared}
theorem rcAt_D (I : Inv X pins σ H s) {n : Nat} {d e : Dt} {x y : V} {u v : Value} {A : Around} (hn : depD d ≤ n) (hu : A.units + n < cLine) (hd : HasD X.K H d x) (he : HasD X.K H e y) (ru : RelV x u) (rv : RelV y v) : SeqAt.RcAt A s u v (eqD d e) := by
  have hu' : A.units < cLine := by omega
  cases d with
  | non =>
    rw [HasD] at hd; subst hd; cases ru
    cases e <;> rw [HasD] at he
    case non => subst he; cases rv; exact SeqAt.RcAt.none_none
    case bl b => subst he; cases rv; exact SeqAt.RcAt.none_bool b
    case int b => subst he; obtain ⟨t, rfl⟩ := rv; exact SeqAt.RcAt.none_int b t
    case str b => subst he; obtain ⟨t, rfl⟩ := rv; exact SeqAt.RcAt.none_str b t
    case tup es => obtain ⟨b, ys, rfl, k1, k2⟩ := he; cases rv; obtain ⟨js, vj, pj, _⟩ := I.tuple k1; exact SeqAt.RcAt.none_tuple pj hu'
    case lst es => obtain ⟨b, ys, rfl, k1, k2⟩ := he; cases rv; obtain ⟨js, vj, pj, _⟩ := I.list k1; exact SeqAt.RcAt.none_list pj.isList hu'
  | bl a =>
    rw [HasD] at hd; subst hd; cases ru
    cases e <;> rw [HasD] at he
    case non => subst he; cases rv; exact SeqAt.RcAt.bool_none a
    case bl b => subst he; cases rv; exact SeqAt.RcAt.bool_bool a b
    case int b => subst he; obtain ⟨t, rfl⟩ := rv; exact SeqAt.RcAt.bool_int a b t
    case str b => subst he; obtain ⟨t, rfl⟩ := rv; exact SeqAt.RcAt.bool_str a b t
    case tup es => obtain ⟨b, ys, rfl, k1, k2⟩ := he; cases rv; obtain ⟨js, vj, pj, _⟩ := I.tuple k1; exact SeqAt.RcAt.bool_tuple a pj hu'
    case lst es => obtain ⟨b, ys, rfl, k1, k2⟩ := he; cases rv; obtain ⟨js, vj, pj, _⟩ := I.list k1; exact SeqAt.RcAt.bool_list a pj.isList hu'
  | int a =>
    rw [HasD] at hd; subst hd; obtain ⟨t0, rfl⟩ := ru
    cases e <;> rw [HasD] at he
    case non => subst he; cases rv; exact SeqAt.RcAt.int_none a t0
    case bl b => subst he; cases rv; exact SeqAt.RcAt.int_bool a t0 b
    case int b => subst he; obtain ⟨t, rfl⟩ := rv; exact SeqAt.RcAt.int_int a t0 b t
    case str b => subst he; obtain ⟨t, rfl⟩ := rv; exact SeqAt.RcAt.int_str a t0 b t
    case tup es => obtain ⟨b, ys, rfl, k1, k2⟩ := he; cases rv; obtain ⟨js, vj, pj, _⟩ := I.tuple k1; exact SeqAt.RcAt.int_tuple a t0 pj hu'
    case lst es => obtain ⟨b, ys, rfl, k1, k2⟩ := he; cases rv; obtain ⟨js, vj, pj, _⟩ := I.list k1; exact SeqAt.RcAt.int_list a t0 pj.isList hu'
  | str a =>
    rw [HasD] at hd; subst hd; obtain ⟨t0, rfl⟩ := ru
    cases e <;> rw [HasD] at he
    case non => subst he; cases rv; exact SeqAt.RcAt.str_none a t0
    case bl b => subst he; cases rv; exact SeqAt.RcAt.str_bool a t0 b
    case int b => subst he; obtain ⟨t, rfl⟩ := rv; exact SeqAt.RcAt.str_int a t0 b t
    case str b => subst he; obtain ⟨t, rfl⟩ := rv; exact SeqAt.RcAt.str_str a t0 b t
    case tup es => obtain ⟨b, ys, rfl, k1, k2⟩ := he; cases rv; obtain ⟨js, vj, pj, _⟩ := I.tuple k1; exact SeqAt.RcAt.str_tuple a t0 pj hu'
    case lst es => obtain ⟨b, ys, rfl, k1, k2⟩ := he; cases rv; obtain ⟨js, vj, pj, _⟩ := I.list k1; exact SeqAt.RcAt.str_list a t0 pj.isList hu'
  | tup ds =>
    rw [depD] at hn
    have hu1 : A.in1.units + (n - 1) < cLine := by rw [units_in1]; omega
    rw [HasD] at hd
    obtain ⟨a, xs, rfl, k1, k2⟩ := hd
    cases ru
    obtain ⟨is, vi, pi, _⟩ := I.tuple k1
    cases e with
    | tup es =>
      rw [HasD] at he
      obtain ⟨b, ys, rfl, l1, l2⟩ := he
      cases rv
      obtain ⟨js, vj, pj, _⟩ := I.tuple l1
      have q := SeqAt.RcAt.tuples (A := A) pi pj hu' (items_eqAt k2 l2 vi vj fun d e x y u v _ hdd => eqAt_D I (n - 1) d e x y u v A.in1 (by omega) hu1)
      obtain ⟨z1, z2⟩ := same_len k2 l2 vi vj
      rw [← z1, ← z2, range_eqDs] at q
      rw [eqD]
      exact q
    | lst es => rw [HasD] at he; obtain ⟨b, ys, rfl, l1, l2⟩ := he; cases rv; obtain ⟨js, vj, pj, _⟩ := I.list l1; exact SeqAt.RcAt.tuple_list pi pj.isList hu'
    | non => rw [HasD] at he; subst he; cases rv; exact SeqAt.RcAt.tuple_none pi hu'
    | bl b => rw [HasD] at he; subst he; cases rv; exact SeqAt.RcAt.tuple_bool b pi hu'
    | int b => rw [HasD] at he; subst he; obtain ⟨t, rfl⟩ := rv; exact SeqAt.RcAt.tuple_int b t pi hu'
    | str b => rw [HasD] at he; subst he; obtain ⟨t, rfl⟩ := rv; exact SeqAt.RcAt.tuple_str b t pi hu'
  | lst ds =>
    rw [depD] at hn
    have hu1 : A.in1.units + (n - 1) < cLine := by rw [units_in1]; omega
    rw [HasD] at hd
    obtain ⟨a, xs, rfl, k1, k2⟩ := hd
    cases ru
    obtain ⟨is, vi, pi, _⟩ := I.list k1
    cases e with
    | lst es =>
      rw [HasD] at he
      obtain ⟨b, ys, rfl, l1, l2⟩ := he
      cases rv
      obtain ⟨js, vj, pj, _⟩ := I.list l1
      obtain ⟨z1, z2⟩ := same_len k2 l2 vi vj
      rw [eqD]
      by_cases hsz : ds.length = es.length
      · have q := SeqAt.RcAt.lists (A := A) pi.isList pj.isList (by omega) hu' (items_eqAt k2 l2 vi vj fun d e x y u v _ hdd => eqAt_D I (n - 1) d e x y u v A.in1 (by omega) hu1)
        rw [← z1, lists_all hsz] at q
        exact q
      · rw [lists_no hsz]
        exact SeqAt.RcAt.lists_lengths pi.isList pj.isList (by rw [← z1, ← z2]; simpa using hsz) hu'
    | tup es => rw [HasD] at he; obtain ⟨b, ys, rfl, l1, l2⟩ := he; cases rv; obtain ⟨js, vj, pj, _⟩ := I.tuple l1; exact SeqAt.RcAt.list_tuple pi.isList pj hu'
    | non => rw [HasD] at he; subst he; cases rv; exact SeqAt.RcAt.list_none pi.isList hu'
    | bl b => rw [HasD] at he; subst he; cases rv; exact SeqAt.RcAt.list_bool b pi.isList hu'
    | int b => rw [HasD] at he; subst he; obtain ⟨t, rfl⟩ := rv; exact SeqAt.RcAt.list_int b t pi.isList hu'
    | str b => rw [HasD] at he; subst he; obtain ⟨t, rfl⟩ := rv; exact SeqAt.RcAt.list_str b t pi.isList hu'
theorem rcNeAt_D (I : Inv X pins σ H s) {n : Nat} {d e : Dt} {x y : V} {u v : Value} {A : Around} (hn : depD d ≤ n) (hu : A.units + n < cLine) (hd : HasD X.K H d x) (he : HasD X.K H e y) (ru : RelV x u) (rv : RelV y v) : SeqAt.RcNeAt A s u v (!(eqD d e)) := by
  have hu' : A.units < cLine := by omega
  cases d with
  | non =>
    rw [HasD] at hd; subst hd; cases ru
    cases e <;> rw [HasD] at he
    case non => subst he; cases rv; exact SeqAt.RcNeAt.none_none
    case bl b => subst he; cases rv; exact SeqAt.RcNeAt.none_bool b
    case int b => subst he; obtain ⟨t, rfl⟩ := rv; exact SeqAt.RcNeAt.none_int b t
    case str b => subst he; obtain ⟨t, rfl⟩ := rv; exact SeqAt.RcNeAt.none_str b t
    case tup es => obtain ⟨b, ys, rfl, k1, k2⟩ := he; cases rv; obtain ⟨js, vj, pj, _⟩ := I.tuple k1; exact SeqAt.RcNeAt.none_tuple pj hu'
    case lst es => obtain ⟨b, ys, rfl, k1, k2⟩ := he; cases rv; obtain ⟨js, vj, pj, _⟩ := I.list k1; exact SeqAt.RcNeAt.none_list pj.isList hu'
  | bl a =>
    rw [HasD] at hd; subst hd; cases ru
    cases e <;> rw [HasD] at he
    case non => subst he; cases rv; exact SeqAt.RcNeAt.bool_none a
    case bl b => subst he; cases rv; exact SeqAt.RcNeAt.bool_bool a b
    case int b => subst he; obtain ⟨t, rfl⟩ := rv; exact SeqAt.RcNeAt.bool_int a b t
    case str b => subst he; obtain ⟨t, rfl⟩ := rv; exact SeqAt.RcNeAt.bool_str a b t
    case tup es => obtain ⟨b, ys, rfl, k1, k2⟩ := he; cases rv; obtain ⟨js, vj, pj, _⟩ := I.tuple k1; exact SeqAt.RcNeAt.bool_tuple a pj hu'
    case lst es => obtain ⟨b, ys, rfl, k1, k2⟩ := he; cases rv; obtain ⟨js, vj, pj, _⟩ := I.list k1; exact SeqAt.RcNeAt.bool_list a pj.isList hu'
  | int a =>
    rw [HasD] at hd; subst hd; obtain ⟨t0, rfl⟩ := ru
    cases e <;> rw [HasD] at he
    case non => subst he; cases rv; exact SeqAt.RcNeAt.int_none a t0
    case bl b => subst he; cases rv; exact SeqAt.RcNeAt.int_bool a t0 b
    case int b => subst he; obtain ⟨t, rfl⟩ := rv; exact SeqAt.RcNeAt.int_int a t0 b t
    case str b => subst he; obtain ⟨t, rfl⟩ := rv; exact SeqAt.RcNeAt.int_str a t0 b t
    case tup es => obtain ⟨b, ys, rfl, k1, k2⟩ := he; cases rv; obtain ⟨js, vj, pj, _⟩ := I.tuple k1; exact SeqAt.RcNeAt.int_tuple a t0 pj hu'
    case lst es => obtain ⟨b, ys, rfl, k1, k2⟩ := he; cases rv; obtain ⟨js, vj, pj, _⟩ := I.list k1; exact SeqAt.RcNeAt.int_list a t0 pj.isList hu'
  | str a =>
    rw [HasD] at hd; subst hd; obtain ⟨t0, rfl⟩ := ru
    cases e <;> rw [HasD] at he
    case non => subst he; cases rv; exact SeqAt.RcNeAt.str_none a t0
    case bl b => subst he; cases rv; exact SeqAt.RcNeAt.str_bool a t0 b
    case int b => subst he; obtain ⟨t, rfl⟩ := rv; exact SeqAt.RcNeAt.str_int a t0 b t
    case str b => subst he; obtain ⟨t, rfl⟩ := rv; exact SeqAt.RcNeAt.str_str a t0 b t
    case tup es => obtain ⟨b, ys, rfl, k1, k2⟩ := he; cases rv; obtain ⟨js, vj, pj, _⟩ := I.tuple k1; exact SeqAt.RcNeAt.str_tuple a t0 pj hu'
    case lst es => obtain ⟨b, ys, rfl, k1, k2⟩ := he; cases rv; obtain ⟨js, vj, pj, _⟩ := I.list k1; exact SeqAt.RcNeAt.str_list a t0 pj.isList hu'
  | tup ds =>
    rw [depD] at hn
    have hu1 : A.in1.units + (n - 1) < cLine := by rw [units_in1]; omega
    rw [HasD] at hd
    obtain ⟨a, xs, rfl, k1, k2⟩ := hd
    cases ru
    obtain ⟨is, vi, pi, _⟩ := I.tuple k1
    cases e with
    | tup es =>
      rw [HasD] at he
      obtain ⟨b, ys, rfl, l1, l2⟩ := he
      cases rv
      obtain ⟨js, vj, pj, _⟩ := I.tuple l1
      have q := SeqAt.RcNeAt.tuples (A := A) pi pj hu' (items_eqAt k2 l2 vi vj fun d e x y u v _ hdd => eqAt_D I (n - 1) d e x y u v A.in1 (by omega) hu1)
      obtain ⟨z1, z2⟩ := same_len k2 l2 vi vj
      rw [← z1, ← z2, range_eqDs] at q
      rw [eqD]
      exact q
    | lst es => rw [HasD] at he; obtain ⟨b, ys, rfl, l1, l2⟩ := he; cases rv; obtain ⟨js, vj, pj, _⟩ := I.list l1; exact SeqAt.RcNeAt.tuple_list pi pj.isList hu'
    | non => rw [HasD] at he; subst he; cases rv; exact SeqAt.RcNeAt.tuple_none pi hu'
    | bl b => rw [HasD] at he; subst he; cases rv; exact SeqAt.RcNeAt.tuple_bool b pi hu'
    | int b => rw [HasD] at he; subst he; obtain ⟨t, rfl⟩ := rv; exact SeqAt.RcNeAt.tuple_int b t pi hu'
    | str b => rw [HasD] at he; subst he; obtain ⟨t, rfl⟩ := rv; exact SeqAt.RcNeAt.tuple_str b t pi hu'
  | lst ds =>
    rw [depD] at hn
    have hu1 : A.in1.units + (n - 1) < cLine := by rw [units_in1]; omega
    rw [HasD] at hd
    obtain ⟨a, xs, rfl, k1, k2⟩ := hd
    cases ru
    obtain ⟨is, vi, pi, _⟩ := I.list k1
    cases e with
    | lst es =>
      rw [HasD] at he
      obtain ⟨b, ys, rfl, l1, l2⟩ := he
      cases rv
      obtain ⟨js, vj, pj, _⟩ := I.list l1
      obtain ⟨z1, z2⟩ := same_len k2 l2 vi vj
      rw [eqD]
      by_cases hsz : ds.length = es.length
      · have q := SeqAt.RcNeAt.lists (A := A) pi.isList pj.isList (by omega) hu' (items_eqAt k2 l2 vi vj fun d e x y u v _ hdd => eqAt_D I (n - 1) d e x y u v A.in1 (by omega) hu1)
        rw [← z1, lists_all hsz] at q
        exact q
      · rw [lists_no hsz]
        exact SeqAt.RcNeAt.lists_lengths pi.isList pj.isList (by rw [← z1, ← z2]; simpa using hsz) hu'
    | tup es => rw [HasD] at he; obtain ⟨b, ys, rfl, l1, l2⟩ := he; cases rv; obtain ⟨js, vj, pj, _⟩ := I.tuple l1; exact SeqAt.RcNeAt.list_tuple pi.isList pj hu'
    | non => rw [HasD] at he; subst he; cases rv; exact SeqAt.RcNeAt.list_none pi.isList hu'
    | bl b => rw [HasD] at he; subst he; cases rv; exact SeqAt.RcNeAt.list_bool b pi.isList hu'
    | int b => rw [HasD] at he; subst he; obtain ⟨t, rfl⟩ := rv; exact SeqAt.RcNeAt.list_int b t pi.isList hu'
    | str b => rw [HasD] at he; subst he; obtain ⟨t, rfl⟩ := rv; exact SeqAt.RcNeAt.list_str b t pi.isList hu'
end
def rEqD (K : PySem.W.Frag) : R2 := fun x y H Q => ∃ d e, HasD K H d x ∧ HasD K H e y ∧ depD d ≤ 60 ∧ Q (.bl (eqD d e)) H
def rNeD (K : PySem.W.Frag) : R2 := fun x y H Q => ∃ d e, HasD K H d x ∧ HasD K H e y ∧ depD d ≤ 60 ∧ Q (.bl (!eqD d e)) H
section
variable {X : Cx}
theorem op_eqD (hu : X.A.units + 64 < cLine) : OpR X (compareOp .Eq) (rEqD X.K) := by
  intro pins s σ H x y v u Q I rx ry h
  obtain ⟨d, e, hd, he, hn, q⟩ := h
  exact rcAt_D I hn (by omega) hd he rx ry _ _ _ _ ⟨.bl _, H, I, rfl, q⟩
theorem op_neD (hu : X.A.units + 64 < cLine) : OpR X (compareOp .NotEq) (rNeD X.K) := by
  intro pins s σ H x y v u Q I rx ry h
  obtain ⟨d, e, hd, he, hn, q⟩ := h
  exact rcNeAt_D I hn (by omega) hd he rx ry _ _ _ _ ⟨.bl _, H, I, rfl, q⟩
end
theorem hasDs_ints (K : PySem.W.Frag) (H : Hp) : ∀ ns : List Int, HasDs K H (ns.map Dt.int) (ns.map V.int)
  | [] => by rw [List.map_nil, List.map_nil, HasDs]
  | n :: ns => by
    rw [List.map_cons, List.map_cons, HasDs]
    exact ⟨_, _, rfl, by rw [HasD], hasDs_ints K H ns⟩
theorem hasD_listI {K : PySem.W.Frag} {H : Hp} {a : Addr} {ns : List Int} (h : SqL K H a (ns.map V.int)) : HasD K H (.lst (ns.map Dt.int)) (.ref a) := by
  rw [HasD]
  exact ⟨a, _, rfl, h, hasDs_ints K H ns⟩
theorem hasD_tupI {K : PySem.W.Frag} {H : Hp} {a : Addr} {ns : List Int} (h : SqT K H a (ns.map V.int)) : HasD K H (.tup (ns.map Dt.int)) (.ref a) := by
  rw [HasD]
  exact ⟨a, _, rfl, h, hasDs_ints K H ns⟩
theorem depDs_ints : ∀ ns : List Int, depDs (ns.map Dt.int) = 0
  | [] => by rw [List.map_nil, depDs]
  | n :: ns => by
    show max (depD (Dt.int n)) (depDs (ns.map Dt.int)) = 0
    rw [depDs_ints ns]
    rfl
theorem eqDs_ints : ∀ ms ns : List Int, eqDs (ms.map Dt.int) (ns.map Dt.int) = decide (ms = ns)
  | [], [] => by simp [eqDs]
  | [], n :: ns => by simp [eqDs]
  | m :: ms, [] => by simp [eqDs]
  | m :: ms, n :: ns => by
    rw [List.map_cons, List.map_cons, eqDs, eqDs_ints ms ns, eqD]
    by_cases h : m = n
    · subst h; simp
    · simp [h]
theorem eqD_listI (ms ns : List Int) : eqD (.lst (ms.map Dt.int)) (.lst (ns.map Dt.int)) = decide (ms = ns) := by rw [eqD, eqDs_ints]
theorem eqD_tupI (ms ns : List Int) : eqD (.tup (ms.map Dt.int)) (.tup (ns.map Dt.int)) = decide (ms = ns) := by rw [eqD, eqDs_ints]
theorem dep_listI (ns : List Int) : depD (.lst (ns.map Dt.int)) ≤ 60 := by rw [depD, depDs_ints]; decide
theorem dep_tupI (ns : List Int) : depD (.tup (ns.map Dt.int)) ≤ 60 := by rw [depD, depDs_ints]; decide
end L2
namespace L2
open PySem PySem.Spec PyProof.Rows
section
variable {X : Cx}
end
def kb11 {α : Type} : List α → List α → List α
  | [u0], [w0] => [u0, w0]
  | _, _ => []
theorem kb_rel11 {vs : List V} {us : List Value} {zs : List V} {ws : List Value} (r1 : Vals vs us) (r2 : Vals zs ws) : Vals (kb11 vs zs) (kb11 us ws) := by
  cases r1 with
  | nil => exact .nil
  | cons a ra =>
    cases ra with
    | nil =>
      cases r2 with
      | nil => exact .nil
      | cons b rb =>
        cases rb with
        | nil => exact .cons a (.cons b .nil)
        | cons _ _ => exact .nil
    | cons _ _ => exact .nil
end L2
namespace L2
open PySem PySem.Spec PyProof.Rows
theorem ObjOk.there {P : Program} {w : World} {H : Hp} {h : Heap} {a : Addr} {o : HO} (x : ObjOk P w H h a o) : ∃ ob, h.get? a = some ob := by
  cases o with
  | lst xs => obtain ⟨_, _, _, _, e⟩ := x; exact ⟨_, e⟩
  | tup xs => obtain ⟨_, _, _, p⟩ := x; obtain ⟨o, e, _⟩ := p; exact ⟨_, e⟩
  | dK kvs => obtain ⟨_, _, _, _, o, _, _, e, _⟩ := x; exact ⟨_, e⟩
  | dT kvs => obtain ⟨_, _, _, _, o, _, _, e, _⟩ := x; exact ⟨_, e⟩
  | set S n => obtain ⟨o, _, _, _, e, _⟩ := x; exact ⟨_, e⟩
  | ins C dx fs => obtain ⟨_, _, _, e, _⟩ := x; exact ⟨_, e⟩
  | own y => obtain ⟨_, e⟩ := x; exact ⟨_, e⟩
  | xd fs => obtain ⟨_, ⟨_, _, _, e, _⟩, _⟩ := x; exact ⟨_, e⟩
  | rng lo hi => obtain ⟨_, _, _, e⟩ := x; exact ⟨_, e⟩
  | frz ob u => obtain ⟨e, _⟩ := x; exact ⟨_, e⟩
  | tbl ps => exact ⟨_, (show h.get? a = some _ from x)⟩
  | met f y => exact ⟨_, (show h.get? a = some _ from x)⟩
  | ext φ => obtain ⟨_, ⟨_, e⟩, _⟩ := x; exact ⟨_, e⟩
structure Fly (P : Program) (w : World) (l : List Env) (H H' : Hp) (s s' : Shared) (ea : Addr) (cls : Value) : Prop where
  os : s'.os = s.os
  bare : AllBare s'.gens
  un : Un (frs l) [] H H' s.heap s'.heap
  hok : HOk P w H' s'.heap
  fly : ∃ (B : Heap) (t : Addr), Heap.FlyingW B l ea cls (.ref t) s'.heap ∧ (∀ b o o', s.heap.get? b = some o → s'.heap.get? b = some o' → b ∉ frs l → B.get? b = some o') ∧ (∀ b u o', H' b = some u → s'.heap.get? b = some o' → B.get? b = some o')
  new : s.heap.get? ea = none
section
variable {X : Cx} {pins : List (Addr × Obj)} {σ : St} {H H' : Hp} {s s' : Shared} {ea : Addr} {cls : Value}
theorem Inv.stkNe (I : Inv X pins σ H s) {b : Addr} {o : Obj} (e : X.s₀.heap.get? b = some o) (hb : b ∉ X.fs) : b ∉ frs X.stack := fun z => by
  rcases List.mem_cons.mp (I.stkSub b z) with q | q
  · have h1 : @LT.lt Nat _ b X.s₀.heap.objs.size := Heap.lt_size e
    have h2 : @LE.le Nat _ X.s₀.heap.objs.size X.env.locals := I.ok.above
    have h3 : @Eq Nat b X.env.locals := q
    omega
  · exact hb q
theorem Inv.fsStk (I : Inv X pins σ H s) {b : Addr} (hb : b ∈ X.fs) : b ∈ frs X.stack := by
  rcases I.ok.stk with e | ⟨e, hf⟩
  · rw [e]; exact hb
  · rw [e]
    unfold frs
    rw [List.filterMap_cons, hf]
    exact List.mem_cons_of_mem _ hb
theorem fly_on (I : Inv X pins σ H s) (hex : X.ex = []) (F : Fly X.prog X.w X.stack H H' s s' ea cls) {h' : Heap} {B : Heap} {t : Addr} (hf : Heap.FlyingW B X.outer ea cls (.ref t) h') (hu : s'.heap.UpToSlots h')
    (k1 : ∀ b o o', s.heap.get? b = some o → s'.heap.get? b = some o' → b ∉ frs X.stack → B.get? b = some o') (k2 : ∀ b u o', H' b = some u → s'.heap.get? b = some o' → B.get? b = some o') :
    Fly X.prog X.w X.outer X.H₀ H' X.s₀ { s' with heap := h' } ea cls := by
  have base := I.base
  rw [hex] at base
  have noE : ∀ b : Addr, b ∉ ([] : List Addr) := fun b => by simp
  have lift : ∀ b o, X.s₀.heap.get? b = some o → b ∉ X.fs → ∃ o1 o2, s.heap.get? b = some o1 ∧ s'.heap.get? b = some o2 ∧ h'.get? b = some o2 := fun b o e hb => by
    obtain ⟨o1, e1⟩ := base.there b o e (noE b)
    obtain ⟨o2, e2⟩ := F.un.there b o1 e1 (noE b)
    exact ⟨o1, o2, e1, e2, hf.1 _ _ (k1 b o1 o2 e1 e2 (I.stkNe e hb))⟩
  have slots : ∀ b o, X.s₀.heap.get? b = some o → X.H₀ b = none → b ∈ X.fs → ∃ sl, h'.get? b = some { o with slots := sl } := fun b o e n hb => by
    obtain ⟨sl, e1⟩ := base.slot b o e n hb (noE b)
    obtain ⟨sl2, e2⟩ := F.un.slot b _ e1 (base.free b o e n (noE b)) (I.fsStk hb) (noE b)
    obtain ⟨_, o3, e3, nf⟩ := I.ok.funs.mem hb
    rw [e] at e3
    cases e3
    obtain ⟨sl3, e4⟩ := hu b _ e2 nf
    exact ⟨sl3, e4⟩
  refine ⟨F.os.trans I.os, F.bare, ⟨fun b o e n hb _ => ?_, fun b o e n hb _ => slots b o e n hb, fun b o e n _ => ?_, fun b o e _ => ?_, fun b xs q => F.un.tups b xs (base.tups b xs q), fun b o xs q => F.un.frzs b o xs (base.frzs b o xs q), fun b ps q => ?_⟩, fun b u e => ?_, ⟨B, t, hf, fun b o o' e e' hb => ?_, fun b u o' q e' => ?_⟩, ?_⟩
  · have e1 := base.keep b o e n hb (noE b)
    have e2 := F.un.keep b o e1 (base.free b o e n (noE b)) (I.stkNe e hb) (noE b)
    exact hf.1 _ _ (k1 b o o e1 e2 (I.stkNe e hb))
  · obtain ⟨o1, e1⟩ := base.there b o e (noE b)
    exact F.un.free b o1 e1 (base.free b o e n (noE b)) (noE b)
  · by_cases hb : b ∈ X.fs
    · obtain ⟨sl, q⟩ := slots b o e (I.ok.frf b hb) hb
      exact ⟨_, q⟩
    · obtain ⟨_, o2, _, _, q⟩ := lift b o e hb
      exact ⟨o2, q⟩
  · obtain ⟨m1, e1⟩ := base.tbls b ps q
    obtain ⟨m2, e2⟩ := F.un.tbls b _ e1
    exact ⟨m1 ++ m2, by rw [e2, Array.append_assoc]⟩
  · refine (F.hok b u e).stay (fun c v hc q => ?_) (fun _ q => q) fun _ _ q => q
    rcases hc with z | z
    · subst z
      exact hf.1 _ _ (k2 _ _ _ e q)
    · exact hf.1 _ _ (k2 _ _ _ z q)
  · by_cases hfs : b ∈ X.fs
    · exact absurd hfs hb
    · obtain ⟨o1, o2, e1, e2, q⟩ := lift b o e hfs
      have q' : h'.get? b = some o' := e'
      rw [q] at q'
      cases q'
      exact k1 b o1 _ e1 e2 (I.stkNe e hfs)
  · obtain ⟨o2, e2⟩ := (F.hok b u q).there
    have z := k2 b u o2 q e2
    have q' : h'.get? b = some o' := e'
    rw [hf.1 _ _ z] at q'
    cases q'
    exact z
  · cases q : X.s₀.heap.get? ea with
    | none => rfl
    | some o =>
      obtain ⟨o1, e1⟩ := base.there ea o q (noE ea)
      rw [F.new] at e1
      cases e1
end
section
variable {P : Program} {w : World} {K : PySem.W.Frag} {mg : Str → Option Value} {base : Heap} {N : List Str} {qual : Str} {scope : Scope} {f : Addr} {cd : Value} {A : Around} {outer : List Env} {s : Shared} {H : Hp} {E : XK}
end
end L2
namespace L2
open PySem PySem.Spec PyProof.Rows
def vErr : List Value := [.type "ValueError", .type "Exception", .type "BaseException", .type "object"]
def XCls (K : PySem.W.Frag) (C : Addr) : Prop := PySem.W.excIn K C vErr "ValueError.__new__" = true
theorem exc_obj {K : PySem.W.Frag} {h : Heap} {C : Addr} {bmB : List Value} {newId : String} (X : K.In h) (q : PySem.W.excIn K C bmB newId = true) :
    ∃ bm N nm qn bs hdct sn sub ab col dd k0 k1 k2 k3 k5 mN, h.get? C = some (excClassObj nm qn C N bs bm hdct sn sub ab col dd k0 k1 k2 k3 k5 newId) ∧ h.Ns N mN ∧ mN "__init__" = none ∧ OwnTail h bmB bm := by
  unfold PySem.W.excIn at q
  split at q
  · rename_i dd cd sl ho
    split at q
    · rename_i C' bm k0 k1 k2 k3 n k5 hm hs
      simp only [Bool.and_eq_true, beq_iff_eq, Bool.not_eq_true'] at q
      obtain ⟨⟨⟨⟨⟨rfl, rfl⟩, hdel⟩, ht⟩, hok⟩, hni⟩ := q
      obtain ⟨nm, bs, mro, ns, qn, hd, sn, sub, ab, col, del⟩ := cd
      dsimp only at hm hdel hok hni
      subst hm hdel
      have hsl : sl = #[k0, k1, k2, k3, some (.builtin n), k5] := by
        obtain ⟨l⟩ := sl
        simp only at hs
        rw [hs]
      subst hsl
      exact ⟨bm, ns, nm, qn, bs, hd, sn, sub, ab, col, dd, k0, k1, k2, k3, k5, _, X _ _ ho, .of_isNs (PySem.W.isNs_of_in X hok), PySem.W.nsMap_none_of_in X hok hni, PySem.W.tail_of_in X ht⟩
    · cases q
  · cases q
theorem looks_exc {K : PySem.W.Frag} {M : Model} {h : Heap} {ea C Pc : Addr} {oe : Obj} {b : Bool} (X : K.In h) (he : h.get? ea = some oe) (hc : oe.cls = .ref C) (m : PySem.W.kitCls K (.ref C) (.ref Pc) = some b) (hb : PySem.W.mroIn K Pc (.type "BaseException") = some true) :
    PySem.W.Looks M h (excMatches (.ref ea) (.ref Pc)) b := by
  obtain ⟨L1, L2, L3⟩ := PySem.W.kit_cls (M := M) X m
  have L4 := PySem.W.looks_mroIn (M := M) X hb
  have L5 : PySem.W.Looks M h (typeOf (.ref ea)) (.ref C) := hc ▸ (PySem.W.Looks.ld he).andThen .now
  have f := tc_notTuple
  intro A Q E s k q
  unfold excMatches isInstance isExcClass
  simp only [bind_assoc]
  refine wpAny_bind (L1 A _ E s k ?_)
  rw [f]
  simp only [pure_bind, Bool.false_eq_true, if_false, List.forIn_cons, List.forIn_nil, bind_assoc]
  refine wpAny_bind (L2 A _ E s k ?_)
  simp only [if_true]
  refine wpAny_bind (L4 A _ E s k ?_)
  simp only [Bool.not_true, Bool.false_eq_true, if_false, pure_bind]
  refine wpAny_bind (L5 A _ E s k ?_)
  refine wpAny_bind (L3 A _ E s k ?_)
  cases b
  · exact wpAny_pure q
  · exact wpAny_pure q
def tRaise (W : Hp → Prop) (t : TA) : TS := fun _ σ H => t σ H fun vs H1 => vs.length ≤ sizeLine ∧ W H1
section
variable {X : Cx}
theorem ps_raise {x : Str} {C : Addr} {e : Expr} {es : List Expr} {t : TA} {np cpos pos : Pos} {W : Hp → Prop} (hc : X.calm = true) (hg : Gl X x) (hm : X.mg x = some (.ref C)) (hC : XCls X.K C) (ha : PA X (e :: es) t)
    (hxe : ∀ {pins : List (Addr × Obj)} {σ : St} {H : Hp} {s : Shared} {ea : Addr} {vs : List Value} {h1 : Heap}, Inv X pins σ H s → Heap.MadeExcOf s.heap h1 ea (.ref C) vs → W H → X.xe (.ref ea) { s with heap := h1 })
    (hdb : (x == ("__debug__" : Str)) = false := by decide) (he : starEach (e :: es) X.env = (false, eval e X.env) :: starEach es X.env := by rfl) (hpl : (backTo cpos (starEach es X.env)).any (·.1) = false := by rfl) :
    PS X (.Raise (some (.Call (.Name x np) (e :: es) [] cpos)) none pos) (tRaise W t) := by
  intro pins s σ H D I h
  obtain ⟨bm, N, nm, qn, bs, hdct, sn, sub, ab, col, dd, k0, k1, k2, k3, k5, mN, hC, hN, hni, T⟩ := exc_obj I.mod.kin hC
  have FB := F.excBase_ValueError
  refine wpAny_Raise_call_subT (C := C) (nm := nm) (q := qn) (N := N) (bs := bs) (bm := bm) (hdct := hdct) (sn := sn) (sub := sub) (ab := ab) (col := col) (dd := dd) (k0 := k0) (k1 := k1) (k2 := k2) (k3 := k3) (k5 := k5)
    FB (mN := mN) (T.hasType FB.hasBase) (I.ok.hd hc) (by rw [he]; show (false || (backTo cpos (starEach es X.env)).any (·.1)) = false; rw [hpl]; rfl) hni (ld_glob I hg hm ⟨rfl, ?_⟩ hdb)
  have hA := ha cpos pins s σ H _ I h
  rw [he] at hA ⊢
  exact Calls.evalArgs_plain (thn hA fun us s2 ⟨vs, H2, I2, r2, hz, q2⟩ => ⟨rfl, by rw [← r2.length]; exact hz, I2.bk _ _ hC, hN.keeps I2.bk, T.keeps I2.bk, fun h' e hm => hxe I2 hm q2⟩)
end
def hndCx (X : Cx) (ea : Addr) : Cx := { X with A := X.A.mark (some (.ref ea)), calm := false, xe := fun _ _ => False }
def IsExc (ea : Addr) (cls : Value) : HO := .ext fun h => ∃ o vs, h.get? ea = some o ∧ o.cls = cls ∧ o.data = .fields vs
section
variable {X : Cx} {pins pn : List (Addr × Obj)} {σ : St} {H H' : Hp} {s s' : Shared}
theorem Inv.recx {X Y : Cx} (I : Inv X pins σ H s) (ok : Y.Ok) (hs : Y.s₀ = X.s₀) (hH : Y.H₀ = X.H₀) (he : Y.env = X.env) (ho : Y.outer = X.outer) (hx : Y.ex = X.ex) (hN : Y.N = X.N) (hp : Y.prog = X.prog) (hw : Y.w = X.w)
    {pins' : List (Addr × Obj)} (hpin : ∀ p ∈ Y.pn ++ pins', p ∈ X.pn ++ pins) : Inv Y pins' σ H s := by
  obtain ⟨prog, w, K, mg, base, A, N, s₀, H₀, env, outer, stack, ex, fn, calm, pnX, xe⟩ := X
  obtain ⟨prog', w', K', mg', base', A', N', s₀', H₀', env', outer', stack', ex', fn', calm', pnY, xe'⟩ := Y
  dsimp only at hs hH he ho hx hN hp hw
  subst hs hH he ho hx hN hp hw
  exact ⟨ok, I.os, I.bare, I.base, I.loc, I.cell, I.free, I.freeC, fun p hp => I.pin p (hpin p hp), I.hok, I.len⟩
theorem Cx.Ok.recx {X Y : Cx} (ok : X.Ok) (hm : Y.K = X.K ∧ Y.mg = X.mg ∧ Y.base = X.base) (he : Y.env = X.env) (hs : Y.s₀ = X.s₀) (hH : Y.H₀ = X.H₀) (ho : Y.outer = X.outer) (hst : Y.stack = X.stack) (hx : Y.ex = X.ex) (hf : Y.fn = X.fn)
    (hd : Y.calm = true → Y.A.handled = none) (hfr : Y.A.frames = some Y.stack) : Y.Ok := by
  obtain ⟨prog, w, K, mg, base, A, N, s₀, H₀, env, outer, stack, ex, fn, calm, pnX, xe⟩ := X
  obtain ⟨prog', w', K', mg', base', A', N', s₀', H₀', env', outer', stack', ex', fn', calm', pnY, xe'⟩ := Y
  obtain ⟨hm1, hm2, hm3⟩ := hm
  dsimp only at hm1 hm2 hm3 he hs hH ho hst hx hf
  subst hm1 hm2 hm3 he hs hH ho hst hx hf
  exact ⟨ok.mod, ok.kind, ok.glob, ok.blt, ok.above, ok.inj, ok.has, ok.cab, hd, hfr, ok.stk, ok.exf, ok.bs, ok.bsz, ok.noex, ok.exfs, ok.funs, ok.frf⟩
theorem Inv.backPn {pins' : List (Addr × Obj)} (I : Inv { X with pn := pn } pins' σ H s) (h : ∀ p ∈ X.pn ++ pins, p ∈ pn) : Inv X pins σ H s :=
  I.recx (Y := X) (I.ok.recx (Y := X) ⟨rfl, rfl, rfl⟩ rfl rfl rfl rfl rfl rfl rfl I.ok.hd I.ok.frames) rfl rfl rfl rfl rfl rfl rfl rfl fun p hp => List.mem_append_left _ (h p hp)
theorem Inv.toHnd {ea : Addr} (I : Inv X pins σ H s) : Inv (hndCx X ea) pins σ H s :=
  I.recx (Y := hndCx X ea) (I.ok.recx (Y := hndCx X ea) ⟨rfl, rfl, rfl⟩ rfl rfl rfl rfl rfl rfl rfl (fun z => by have z' : false = true := z; cases z') I.ok.frames) rfl rfl rfl rfl rfl rfl rfl rfl fun _ hp => hp
theorem Inv.ofHnd {ea : Addr} (ok : X.Ok) (I : Inv (hndCx X ea) pins σ H s) : Inv X pins σ H s := I.recx (Y := X) ok rfl rfl rfl rfl rfl rfl rfl rfl fun _ hp => hp
theorem run_fnT {CX : CXT} {k : Nat} {f : Addr} {fd : FuncData} {ps : List Str} {sp : Sp} {dvs : List V} {ds : List Value} {E : XK} {Q : VK} {us : List Value} {vs : List V} (F : FnOk X.prog X.w X.K X.mg X.base CX k f fd ps sp) (hr : Room k X.A) (hb : Binds X.K fd ps ds) (hd : Vals dvs ds)
    (I : Inv X pins σ H s) (hx : ∀ e s', CX X.stack H s E e s' → X.xe e s') (r : Vals vs us) (h : sp (vs ++ dvs) H Q E) : wpAny (model X.prog X.w) X.A (call (.ref f) us) (EP X pins σ Q) X.xe s := by
  have r2 : Vals (vs ++ dvs) (us ++ ds) := r.append hd
  have hl : (us ++ ds).length = ps.length := by rw [← r2.length]; exact F.len _ _ _ _ h
  refine wpAny_call (codeAny_mono (F.run X.A X.stack s H ⟨us, []⟩ (us ++ ds) (vs ++ dvs) Q E hr I.env0 (hb s us I.kIn hl) r2 h) fun r s' hq => ?_)
  cases r with
  | error e => exact hx e s' hq
  | ok fl =>
    cases fl with
    | ret u => exact I.after hq
    | next => exact False.elim hq
    | brk => exact False.elim hq
    | cont => exact False.elim hq
theorem fly_here {ea : Addr} {cls : Value} (I : Inv X pins σ H s) (F : Fly X.prog X.w X.stack H H' s s' ea cls) {h' : Heap} {B : Heap} {t : Addr} (hf : Heap.FlyingW B X.stack ea cls (.ref t) h') (hu : s'.heap.UpToSlots h')
    (k1 : ∀ b o o', s.heap.get? b = some o → s'.heap.get? b = some o' → b ∉ frs X.stack → B.get? b = some o') (k2 : ∀ b u o', H' b = some u → s'.heap.get? b = some o' → B.get? b = some o') :
    Inv X pins σ H' { s' with heap := h' } := by
  have noE : ∀ b : Addr, b ∉ ([] : List Addr) := fun b => by simp
  have slots : ∀ b o, s.heap.get? b = some o → H b = none → b ∈ frs X.stack → ∃ sl, h'.get? b = some { o with slots := sl } := fun b o e n hb => by
    obtain ⟨sl2, e2⟩ := F.un.slot b _ e n hb (noE b)
    obtain ⟨_, o3, e3, nf⟩ := I.stack.mem hb
    rw [e] at e3
    cases e3
    obtain ⟨sl3, e4⟩ := hu b _ e2 nf
    exact ⟨sl3, e4⟩
  refine I.call' (ch := []) F.os ⟨fun b o e n hb _ => ?_, fun b o e n hb _ => slots b o e n hb, fun b o e n _ => F.un.free b o e n (noE b), fun b o e _ => ?_, F.un.tups, F.un.frzs, F.un.tbls⟩ (fun b u e => ?_) F.bare fun b z => absurd z (noE b)
  · have e2 := F.un.keep b o e n hb (noE b)
    exact hf.1 _ _ (k1 b o o e e2 hb)
  · by_cases hb : b ∈ frs X.stack
    · obtain ⟨sl, q⟩ := slots b o e (I.stkFree b hb) hb
      exact ⟨_, q⟩
    · obtain ⟨o2, e2⟩ := F.un.there b o e (noE b)
      exact ⟨o2, hf.1 _ _ (k1 b o o2 e e2 hb)⟩
  · refine (F.hok b u e).stay (fun c v hc q => ?_) (fun _ q => q) fun _ _ q => q
    rcases hc with z | z
    · subst z
      exact hf.1 _ _ (k2 _ _ _ e q)
    · exact hf.1 _ _ (k2 _ _ _ z q)
theorem Inv.track {a : Addr} {o : HO} (I : Inv X pins σ H s) (hex : X.ex = []) (hn : H a = none) (h0 : X.s₀.heap.get? a = none) (hL : a ≠ X.env.locals) (hc : ∀ x c, X.env.cells.lookup x = some c → c ≠ a) (hp : ∀ p ∈ X.pn ++ pins, p.1 ≠ a)
    (new : ObjOk X.prog X.w (upd H a o) s.heap a o) : Inv X pins σ (upd H a o) s := by
  have ne0 : ∀ b ob, X.s₀.heap.get? b = some ob → b ≠ a := fun b ob e z => by rw [z, h0] at e; cases e
  refine ⟨I.ok, I.os, I.bare, ⟨I.base.keep, I.base.slot, fun b ob e n hx => ?_, I.base.there, fun b xs q => ?_, fun b ob u q => ?_, fun b ps q => ?_⟩, I.loc, I.cell, ?_, fun x c e => ?_, fun p hpp => ?_, fun b u e => ?_, I.len⟩
  · rw [upd_ne (ne0 b ob e)]; exact I.base.free b ob e n hx
  · rw [upd_ne (ne_of_none (I.base.tups b xs q) hn)]; exact I.base.tups b xs q
  · rw [upd_ne (ne_of_none (I.base.frzs b ob u q) hn)]; exact I.base.frzs b ob u q
  · obtain ⟨more, z⟩ := I.base.tbls b ps q
    exact ⟨more, by rw [upd_ne (ne_of_none z hn)]; exact z⟩
  · rw [upd_ne (Ne.symm hL)]; exact I.free
  · rw [upd_ne (hc x c e)]; exact I.freeC x c e
  · obtain ⟨q1, q2, q3⟩ := I.pin p hpp
    exact ⟨q1, by rw [upd_ne (hp p hpp)]; exact q2, q3⟩
  · by_cases hb : b = a
    · subst hb
      rw [upd_same] at e
      cases e
      exact new
    · rw [upd_ne hb] at e
      exact (I.hok b u e).stay (fun _ _ _ q => q) (fun c q => by rw [upd_ne (ne_of_none q hn)]; exact q) fun c xs q => by rw [upd_ne (ne_of_none q hn)]; exact q
theorem Inv.unset {i : Nat} {n : Str} (I : Inv X pins σ H s) (hN : X.N.Nodup) (hi : X.N[i]? = some n) {m : Str → Option Value} (hm : s.heap.Ns X.env.locals m)
    (hl : ∀ (i : Nat) (x : Str) (v : V), X.N[i]? = some x → σ[i]? = some (some v) → Vis X.env.scope x → ∃ u, RelV v u ∧ Look X.env s.heap m x u) {h' : Heap} {u : Option Value} (hn' : h'.Ns X.env.locals (fun x => if x = n then u else m x))
    (hs : Heap.SameBut X.env.locals s.heap h') : Inv X pins (σ.set i none) H { s with heap := h' } := by
  obtain ⟨oL, _, _, hoL, _⟩ := id hm
  have hiσ : i < σ.length := by rw [I.len]; exact (List.getElem?_eq_some_iff.mp hi).1
  have cne := I.cne
  refine ⟨I.ok, I.os, I.bare, ⟨fun b o e n hb hx => ?_, fun b o e n hb hx => ?_, I.base.free, fun b o e hx => ?_, I.base.tups, I.base.frzs, I.base.tbls⟩, ⟨_, hn', fun j y v' e1 e2 e3 => ?_⟩, fun y c e => ?_, I.free, I.freeC, fun p hp => ?_, fun b ob e => ?_, by simpa using I.len⟩
  · exact (hs.2 b (Nat.ne_of_lt (Nat.lt_of_lt_of_le (Heap.lt_size e) I.ok.above))).trans (I.base.keep b o e n hb hx)
  · obtain ⟨sl, e1⟩ := I.base.slot b o e n hb hx
    exact ⟨sl, (hs.2 b (Nat.ne_of_lt (Nat.lt_of_lt_of_le (Heap.lt_size e) I.ok.above))).trans e1⟩
  · obtain ⟨o', e1⟩ := I.base.there b o e hx
    exact ⟨o', (hs.2 b (Nat.ne_of_lt (Nat.lt_of_lt_of_le (Heap.lt_size e) I.ok.above))).trans e1⟩
  · by_cases hj : j = i
    · subst hj
      rw [List.getElem?_set_self hiσ] at e2
      cases e2
    · rw [List.getElem?_set_ne (Ne.symm hj)] at e2
      obtain ⟨u', r', q⟩ := hl j y v' e1 e2 e3
      refine ⟨u', r', ?_⟩
      rcases q with ⟨k, e⟩ | ⟨k, c, e, z⟩
      · refine .inl ⟨k, ?_⟩
        have : y ≠ n := fun e => hj (nodup_ix hN e1 (e ▸ hi))
        simp [this, e]
      · exact .inr ⟨k, c, e, z.sameBut hs (cne y c e)⟩
  · obtain ⟨w', z⟩ := I.cell y c e
    exact ⟨w', z.sameBut hs (cne y c e)⟩
  · obtain ⟨e, n, ne, nf, d⟩ := I.pin p hp
    exact ⟨(hs.2 p.1 ne).trans e, n, ne, nf, d⟩
  · refine (I.hok b ob e).stay (fun c w' hc q => (hs.2 c ?_).trans q) (fun _ q => q) fun _ _ q => q
    have fr := I.free
    rintro rfl
    rcases hc with rfl | hc
    · rw [fr] at e; cases e
    · rw [fr] at hc; cases hc
end
end L2
namespace L2
open PySem PySem.Spec PyProof.Rows
section
variable {X : Cx}
end
end L2
namespace L2
open PySem PySem.Spec PyProof.Rows
structure XIs (K : PySem.W.Frag) (C : Addr) : Prop where
  ga : PySem.W.findIn K (.ref C) "__getattribute__" = some (some (.builtin "BaseException.__getattribute__"))
  gn : PySem.W.findIn K (.ref C) "__getattr__" = some none
  cl : PySem.W.findIn K (.ref C) "__class__" = some (some (.builtin "object.__class__"))
  be : PySem.W.mroIn K C (.type "BaseException") = some true
  ob : PySem.W.mroIn K C (.type "object") = some true
  is : (PySem.W.clsIn K C).isSome = true
section
variable {prog : Program} {w : World} {A : Around} {E : Value → Shared → Prop} {K : PySem.W.Frag} {h : Heap} {g : Array GenState} {d : Drawn} {t : Nat} {os : OsState} {a C : Addr} {o : Obj}
theorem xc_type {M : Model} (hx : h.get? a = some o) (hc : o.cls = .ref C) : PySem.W.Looks M h (typeOf (.ref a)) (.ref C) := hc ▸ (PySem.W.Looks.ld hx).andThen .now
theorem xc_get {R : Result → Shared → Prop} {tp : Value} (X : K.In h) (I : XIs K C) (hx : h.get? a = some o) (hc : o.cls = .ref C) (hq : R (.ok (.ret (.ref C))) ⟨h, g, d, t, os⟩) :
    codeAny (model prog w) A (.call (.builtin "getset_descriptor.__get__") ⟨[.builtin "object.__class__", .ref a, tp], []⟩) R ⟨h, g, d, t, os⟩ := by
  have L1 := PySem.W.looks_mroIn (M := model prog w) X I.ob
  have hT5 : (⟨h, g, d, t, os⟩ : Shared).TypeIs (.builtin "object.__class__") "getset_descriptor" := F.typeOf_object_class
  refine codeAny_call_builtin F.slot_gs_get.plain F.entry_gs_get (F.slot_gs_get.check _ _ _ _ _ _ _ _ hT5 (F.args_gs_get _ _ _) ?_)
  have ow := F.owner_object_class
  repeat (any_goals (first | assumption | (with_reducible refine wpAny_loadPart_at hx ?_; rw [hc]) | (rw [ow]; with_reducible refine L1.at ?_) | (with_reducible refine L1.at ?_) | wp_step))
  refine ⟨Code.quiet_builtin _ (by decide +kernel), codeAny_builtin F.entry_object_class ?_⟩
  repeat (any_goals (first | assumption | (with_reducible refine wpAny_loadPart_at hx ?_; rw [hc]) | wp_step))
theorem xc_entry {tk : Tok} {Q : Fin → Shared → Prop} (X : K.In h) (I : XIs K C) (hx : h.get? a = some o) (hc : o.cls = .ref C) (hq : Q (.done (.ret (.ref C))) ⟨h, g, d, t, os⟩) :
    wpAny (model prog w) A (Builtin.«object.__getattribute__» ⟨[.ref a, .str "__class__" tk], []⟩) Q E ⟨h, g, d, t, os⟩ := by
  have hT5 : (⟨h, g, d, t, os⟩ : Shared).TypeIs (.builtin "object.__class__") "getset_descriptor" := F.typeOf_object_class
  have f5 := F.typeOf_object_class
  have f6 := F.slot_gs_get.lookup
  have f7 := F.slot_gs_set.lookup
  have L1 := PySem.W.looks_findIn (M := model prog w) X I.cl
  repeat (any_goals (first | assumption | (with_reducible refine wpAny_loadPart_at hx ?_; rw [hc]) | (with_reducible refine L1.at ?_) | wp_step))
  refine xc_get X I hx hc ?_
  repeat (any_goals (first | assumption | wp_step))
theorem xc_check {M : Model} {nameV : Value} {Q : Unit → Shared → Prop} (X : K.In h) (I : XIs K C) (hx : h.get? a = some o) (hc : o.cls = .ref C) (hq : Q () ⟨h, g, d, t, os⟩) : wpAny M A (checkBuiltinCall "BaseException.__getattribute__" ⟨[.ref a, nameV], []⟩) Q E ⟨h, g, d, t, os⟩ := by
  have hk : builtinKind "BaseException.__getattribute__" = some .slot := by decide +kernel
  have hsplit : splitId "BaseException.__getattribute__" = some ("BaseException", "__getattribute__") := by decide +kernel
  have L1 := PySem.W.looks_mroIn (M := M) X I.be
  have ha := F.args_bexc_ga (.ref a) nameV
  simp only [checkBuiltinCall, hk, hsplit]
  refine wpAny_bind ?_
  · unfold isInstance
    repeat (first | (with_reducible refine wpAny_loadPart_at hx ?_; rw [hc]) | (with_reducible refine L1.at ?_) | wp_step)
    exact hq
theorem xc_call {tk : Tok} {R : Result → Shared → Prop} (X : K.In h) (I : XIs K C) (hx : h.get? a = some o) (hc : o.cls = .ref C) (hq : R (.ok (.ret (.ref C))) ⟨h, g, d, t, os⟩) :
    codeAny (model prog w) A (.call (.builtin "BaseException.__getattribute__") ⟨[.ref a, .str "__class__" tk], []⟩) R ⟨h, g, d, t, os⟩ :=
  codeAny_call_builtin F.attr_ValueError.ga.plain F.entry_bexc_ga (xc_check X I hx hc (xc_entry X I hx hc hq))
theorem xc_by {tk : Tok} {Q : Value → Shared → Prop} (X : K.In h) (I : XIs K C) (hx : h.get? a = some o) (hc : o.cls = .ref C) (hq : Q (.ref C) ⟨h, g, d, t, os⟩) :
    wpAny (model prog w) A (getAttrBy (.ref a) (.str "__class__" tk) false) Q E ⟨h, g, d, t, os⟩ := by
  have f3 := F.attr_ValueError.ga.bind (.ref a)
  have L1 := PySem.W.looks_findIn (M := model prog w) X I.ga
  have L2 := PySem.W.looks_findIn (M := model prog w) X I.gn
  have hx2 : (Value.builtin "BaseException.__getattribute__" == Value.builtin "object.__getattribute__") = false := by decide +kernel
  have hx1 : (onTheHeap (Value.ref C) && Value.builtin "BaseException.__getattribute__" == Value.builtin "object.__getattribute__") = false := by rw [hx2]; rfl
  repeat (any_goals (first | assumption | (with_reducible refine wpAny_loadPart_at hx ?_; rw [hc]) | (with_reducible refine L1.at ?_) | (with_reducible refine L2.at ?_) | wp_step))
  refine xc_call X I hx hc ?_
  repeat (any_goals (first | assumption | wp_step))
theorem xc_attr {Q : Option Value → Shared → Prop} (X : K.In h) (I : XIs K C) (hx : h.get? a = some o) (hc : o.cls = .ref C) (hq : Q (some (.ref C)) ⟨h, g, d, t + 1, os⟩) : wpAny (model prog w) A (getAttr? (.ref a) "__class__") Q E ⟨h, g, d, t, os⟩ := by
  unfold getAttr? getAttrBy?
  repeat (any_goals (first | assumption | with_reducible apply xc_by X I hx hc | wp_step))
end
theorem kitx_exc {K : PySem.W.Frag} {ea C : Addr} (I : XIs K C) : PySem.W.KitX K (.ref ea) (.ref C) (fun h => ∃ o vs, h.get? ea = some o ∧ o.cls = .ref C ∧ o.data = .fields vs) where
  ty := fun _ _ _ ⟨o, _, h1, h2, _⟩ => xc_type h1 h2
  it := fun _ _ X _ => by
    have hcD := I.is
    unfold PySem.W.clsIn at hcD
    split at hcD
    · rename_i c' d' cd' sl' ho
      intro A' Q' E' s' k q
      unfold isType loadHead
      exact wpAny_bind (wpAny_loadPart (k _ _ (X _ _ ho)) (wpAny_pure q))
    · cases hcD
  ne := fun h tp dd its n sl X htp => by
    refine Bool.eq_false_iff.mpr fun q => ?_
    have e : C = tp := Value.ref.inj (beq_iff_eq.mp q)
    subst e
    have hcD := I.is
    unfold PySem.W.clsIn at hcD
    split at hcD
    · rename_i c' d' cd' sl' ho
      have z := (X _ _ ho).symm.trans htp
      cases z
    · cases hcD
  ca := fun {_ _ _ _ _ s} X ⟨o, _, h1, h2, _⟩ k => by
    obtain ⟨hh, g, d, t, os⟩ := s
    exact xc_attr X I h1 h2 k
section
variable {X : Cx}
theorem call_isexc : CallR X (.builtin "isinstance") (fun xs H Q => ∃ ea C y c b, xs = [.ref ea, y] ∧ H ea = some (IsExc ea (.ref C)) ∧ XIs X.K C ∧ RelV y c ∧ PySem.W.kitOne X.K (.ref C) c = some b ∧ Q (.bl b) H) := by
  intro pins s σ H xs us Q I r h
  obtain ⟨ea, C, y, c, b, rfl, hH, hX, ry, hk, q⟩ := h
  obtain ⟨u, w, rfl, r1, r2⟩ := vals2 r
  obtain rfl : u = Value.ref ea := r1
  have hw : w = c := by
    cases y with
    | ref z => exact (show w = Value.ref z from r2).trans (show c = Value.ref z from ry).symm
    | ty z => exact (show w = Value.type z from r2).trans (show c = Value.type z from ry).symm
    | non => exact (show w = Value.none from r2).trans (show c = Value.none from ry).symm
    | bl z => exact (show w = Value.bool z from r2).trans (show c = Value.bool z from ry).symm
    | int z =>
      exfalso
      obtain ⟨_, rfl⟩ := ry
      unfold PySem.W.kitOne PySem.W.kitCls at hk
      simp at hk
    | str z =>
      exfalso
      obtain ⟨_, rfl⟩ := ry
      unfold PySem.W.kitOne PySem.W.kitCls at hk
      simp at hk
    | byt z =>
      exfalso
      obtain ⟨_, rfl⟩ := ry
      unfold PySem.W.kitOne PySem.W.kitCls at hk
      simp at hk
    | flt z =>
      exfalso
      obtain ⟨_, rfl⟩ := ry
      unfold PySem.W.kitOne PySem.W.kitCls at hk
      simp at hk
  subst hw
  obtain ⟨p, _, _⟩ := (show ObjOk X.prog X.w H s.heap ea (IsExc ea (.ref C)) from I.hok ea _ hH)
  exact PySem.W.kia_one (kitx_exc hX) I.kIn p hk (fun z => nomatch z) fun tk => ⟨.bl b, H, I.tok tk, rfl, q⟩
end
end L2
namespace L2
open PySem PySem.Spec PyProof.Rows
theorem eqAt_bl {A : Around} {s : Shared} (k : Bool) (bs : List Bool) : ∀ y, y ∈ (bs.map Value.bool).toArray → SeqAt.EqAt A s y (.bool k) (isBoolOf k y) := fun y hy => by
  have hy' : y ∈ bs.map Value.bool := by simpa using hy
  obtain ⟨b, _, rfl⟩ := List.mem_map.mp hy'
  exact SeqAt.EqAt.bool_bool b k
theorem countP_bl (k : Bool) : ∀ bs : List Bool, (bs.map Value.bool).countP (isBoolOf k) = bs.count k
  | [] => rfl
  | b :: bs => by
    rw [List.map_cons, List.countP_cons, List.count_cons, countP_bl k bs]
    rfl
def rCountB (K : PySem.W.Frag) : V → List V → Hp → VK → Prop := fun x vs H Q => ∃ (l : Addr) (bs : List Bool) (k : Bool), x = .ref l ∧ vs = [.bl k] ∧ SqL K H l (bs.map V.bl) ∧ Q (.int (bs.count k)) H
def rIndexB (K : PySem.W.Frag) : V → List V → Hp → VK → Prop := fun x vs H Q => ∃ (l : Addr) (bs : List Bool) (k : Bool), x = .ref l ∧ vs = [.bl k] ∧ SqL K H l (bs.map V.bl) ∧ k ∈ bs ∧ Q (.int (bs.idxOf k)) H
section
variable {X : Cx}
theorem mt_countB : MtR X "list.count" (rCountB X.K) := by
  intro pins s σ H x vs v us Q I rx rv h
  obtain ⟨l, bs, k, rfl, rfl, hH, q⟩ := h
  cases rx
  obtain ⟨u, rfl, ru⟩ := rv.one
  obtain rfl : u = Value.bool k := ru
  obtain ⟨its, r, pl, hz⟩ := I.list hH
  have e := vals_bl r
  subst e
  obtain ⟨⟨cls, dd, data, sl⟩, ho, hc, n, hd⟩ := pl.isList
  simp only at hc hd
  subst hc hd
  refine call_meets PySem.F.slot_list_count ⟨_, ho, rfl⟩ PySem.F.entry_list_count (PySem.F.args_list_count_2 _ _) (SeqAt.list_countAt l _ n dd sl (.bool k) (isBoolOf k)) ⟨ho, fun y hy => eqAt_bl k bs y hy, ?_⟩
  rw [show (bs.map Value.bool).toArray.toList = bs.map Value.bool from rfl, countP_bl k bs]
  exact ⟨.int (bs.count k), H, I.tok _, ⟨_, rfl⟩, q⟩
theorem mt_indexB : MtR X "list.index" (rIndexB X.K) := by
  intro pins s σ H x vs v us Q I rx rv h
  obtain ⟨l, bs, k, rfl, rfl, hH, hk, q⟩ := h
  cases rx
  obtain ⟨u, rfl, ru⟩ := rv.one
  obtain rfl : u = Value.bool k := ru
  obtain ⟨its, r, pl, hz⟩ := I.list hH
  have e := vals_bl r
  subst e
  obtain ⟨⟨cls, dd, data, sl⟩, ho, hc, n, hd⟩ := pl.isList
  simp only at hc hd
  subst hc hd
  have hj : bs.idxOf k < bs.length := List.idxOf_lt_length_iff.mpr hk
  have hz' : bs.length ≤ sizeLine := by rw [List.length_map] at hz; exact hz
  have hs : (sizeLine : Int) < 2 ^ 63 - 1 := by decide
  refine call_meets PySem.F.slot_list_index ⟨_, ho, rfl⟩ PySem.F.entry_list_index (PySem.F.args_list_index_2 _ _)
    (SeqAt.list_indexAt l _ n dd sl (.bool k) (isBoolOf k) (bs.idxOf k) (by simpa using hj) (by omega) ?_ ?_) ⟨ho, fun y hy => eqAt_bl k bs y hy, ?_⟩
  · have e : (bs.map Value.bool).toArray[bs.idxOf k]'(by simpa using hj) = Value.bool (bs[bs.idxOf k]) := by simp
    rw [e]
    show (bs[bs.idxOf k] == k) = true
    simpa using List.getElem_idxOf hj
  · intro j hjs hlt
    have hjl : j < bs.length := by simpa using hjs
    have e : (bs.map Value.bool).toArray[j]'hjs = Value.bool (bs[j]) := by simp
    rw [e]
    show (bs[j] == k) = false
    exact Bool.eq_false_iff.mpr fun z => by simpa [z] using List.not_of_lt_findIdx (p := (· == k)) (xs := bs) (i := j) hlt
  · exact ⟨.int (bs.idxOf k), H, I.tok _, ⟨_, rfl⟩, q⟩
end
section
variable {P : Program} {w : World} {K : PySem.W.Frag} {mg : Str → Option Value} {base : Heap}
end
end L2
namespace L2
open PySem
def kinds (K : PySem.W.Frag) (C : Value) (Ds : List Value) : List (Option Bool) := Ds.map (PySem.W.kitOne K C)
end L2
namespace L2
open PySem PySem.Spec PyProof.Rows
def isStar : Expr → Bool
  | .Starred _ _ => true
  | _ => false
theorem starEach_no {e : Expr} {es : List Expr} {env : Env} (h : isStar e = false) : starEach (e :: es) env = (false, eval e env) :: starEach es env := by
  cases e <;> first | rfl | cases h
section
variable {X : Cx} {e : Expr} {es : List Expr} {te : TE} {t : TA}
theorem pa_more (ha : PE X e te) (hr : PA X es t) (h : isStar e = false := by rfl) : PA X (e :: es) (tCons te t) := pa_cons ha hr (starEach_no h)
end
end L2
namespace L2
open PySem PySem.Spec PyProof.Rows
section
variable {prog : Program} {w : World} {A : Around} {E : Value → Shared → Prop} {s : Shared}
end
section
variable {X : Cx}
end
def kb12 {α : Type} : List α → List α → List α
  | [u0], [w0, w1] => [u0, w0, w1]
  | _, _ => []
theorem kb_rel12 {vs : List V} {us : List Value} {zs : List V} {ws : List Value} (r1 : Vals vs us) (r2 : Vals zs ws) : Vals (kb12 vs zs) (kb12 us ws) := by
  rcases r1 with _ | ⟨a, _ | ⟨_, _⟩⟩ <;> rcases r2 with _ | ⟨b, _ | ⟨c, _ | ⟨_, _⟩⟩⟩
  all_goals first | exact .nil | exact .cons a (.cons b (.cons c .nil))
end L2
namespace L2
open PySem PySem.Spec PyProof.Rows
section
open PySem.SeqAt
open PySem.MeetsSeq PySem.MeetsSeq2 PySem.MeetsSeq3
end
end L2
namespace L2
open PySem PySem.Spec PyProof.Rows
section
variable {X : Cx}
end
end L2
namespace HT
open PySem PyProof.Rows
section
variable {prog : Program} {w : World} {A : Around} {E : Value → Shared → Prop} {s : Shared}
end
end HT
namespace L2
open PySem PySem.Spec PyProof.Rows
section
variable {X : Cx}
end
end L2
namespace L2
open PySem PySem.Spec PyProof.Rows
def constV : Expr → Option V
  | .Constant (.int i) _ _ => some (.int i)
  | .Constant (.bool b) _ _ => some (.bl b)
  | .Constant .none _ _ => some .non
  | .Constant (.str x) _ _ => some (.str x)
  | .BinOp (.Constant (.int i) _ _) .Sub (.Constant (.int j) _ _) _ => some (.int (i - j))
  | _ => none
def constsV : List Expr → Option (List V)
  | [] => some []
  | e :: es => match constV e, constsV es with
    | some v, some vs => some (v :: vs)
    | _, _ => none
inductive Lit where
  | c (v : V) | t (vs : List V) | l (vs : List V) | r (vs : List V) (k : Int)
def litOf : Expr → Option Lit
  | .Tuple es _ _ => (constsV es).map .t
  | .List es _ => (constsV es).map .l
  | .BinOp (.List es _) .Mult (.Constant (.int k) _ _) _ => (constsV es).map fun vs => .r vs k
  | e => (constV e).map .c
def litsOf : List Expr → Option (List Lit)
  | [] => some []
  | e :: es => match litOf e, litsOf es with
    | some v, some vs => some (v :: vs)
    | _, _ => none
def tVals (vs : List V) : TA := fun _ H Q => Q vs H
def tLits : List Lit → TA
  | [] => fun _ H Q => Q [] H
  | .c v :: ls => fun σ H Q => tLits ls σ H fun vs H' => Q (v :: vs) H'
  | .t xs :: ls => fun σ H Q => xs.length ≤ sizeLine ∧ ∀ p, H p = none → tLits ls σ (upd H p (.tup xs)) fun vs H' => Q (.ref p :: vs) H'
  | .l xs :: ls => fun σ H Q => xs.length ≤ sizeLine ∧ ∀ p, H p = none → tLits ls σ (upd H p (.lst xs)) fun vs H' => Q (.ref p :: vs) H'
  | .r xs k :: ls => fun σ H Q => xs.length ≤ sizeLine ∧ ∀ p, H p = none → (-(2 ^ 63) ≤ k ∧ k < 2 ^ 63 ∧ xs.length * k.toNat ≤ sizeLine) ∧ ∀ p2, upd H p (.lst xs) p2 = none → tLits ls σ (upd (upd H p (.lst xs)) p2 (.lst (List.replicate k.toNat xs).flatten)) fun vs H' => Q (.ref p2 :: vs) H'
def tRep (xs : List V) (k : Int) : TE := fun _ H Q => xs.length ≤ sizeLine ∧ ∀ p, H p = none → (-(2 ^ 63) ≤ k ∧ k < 2 ^ 63 ∧ xs.length * k.toNat ≤ sizeLine) ∧ ∀ p2, upd H p (.lst xs) p2 = none → Q (.ref p2) (upd (upd H p (.lst xs)) p2 (.lst (List.replicate k.toNat xs).flatten))
section
variable {X : Cx}
theorem pe_constV {e : Expr} {v : V} (h : constV e = some v) : PE X e (tC v) ∧ isStar e = false := by
  unfold constV at h
  split at h
  · cases h; exact ⟨pe_int, rfl⟩
  · cases h; exact ⟨pe_bl, rfl⟩
  · cases h; exact ⟨pe_non, rfl⟩
  · cases h; exact ⟨pe_str, rfl⟩
  · cases h
    refine ⟨fun pins s σ H Q I q => ?_, rfl⟩
    exact (pe_op op_sub pe_int pe_int : PE X _ _) pins s σ H Q I ⟨_, _, rfl, rfl, q⟩
  · cases h
theorem pa_consts : ∀ {es : List Expr} {vs : List V}, constsV es = some vs → PA X es (tVals vs)
  | [], vs, h => by
    cases h
    exact pa_nil
  | e :: es, vs, h => by
    unfold constsV at h
    split at h
    · rename_i v ws h1 h2
      cases h
      exact pa_more (pe_constV h1).1 (pa_consts h2) (pe_constV (X := X) h1).2
    · cases h
theorem pe_litT {e : Expr} {xs : List V} (h : litOf e = some (.t xs)) : PE X e (tTup (tVals xs)) ∧ isStar e = false := by
  unfold litOf at h
  split at h
  · rename_i es a b
    cases q : constsV es with
    | none => rw [q] at h; cases h
    | some vs =>
      rw [q] at h
      cases h
      exact ⟨pe_tup (pa_consts q), rfl⟩
  · rename_i es a
    cases q : constsV es with
    | none => rw [q] at h; cases h
    | some vs => rw [q] at h; cases h
  · rename_i es a k b c d
    cases q : constsV es with
    | none => rw [q] at h; cases h
    | some vs => rw [q] at h; cases h
  · cases q : constV e with
    | none => rw [q] at h; cases h
    | some v => rw [q] at h; cases h
theorem pe_litL {e : Expr} {xs : List V} (h : litOf e = some (.l xs)) : PE X e (tLst (tVals xs)) ∧ isStar e = false := by
  unfold litOf at h
  split at h
  · rename_i es a b
    cases q : constsV es with
    | none => rw [q] at h; cases h
    | some vs => rw [q] at h; cases h
  · rename_i es a
    cases q : constsV es with
    | none => rw [q] at h; cases h
    | some vs =>
      rw [q] at h
      cases h
      exact ⟨pe_lst (pa_consts q), rfl⟩
  · rename_i es a k b c d
    cases q : constsV es with
    | none => rw [q] at h; cases h
    | some vs => rw [q] at h; cases h
  · cases q : constV e with
    | none => rw [q] at h; cases h
    | some v => rw [q] at h; cases h
theorem pe_litC {e : Expr} {v : V} (h : litOf e = some (.c v)) : PE X e (tC v) ∧ isStar e = false := by
  unfold litOf at h
  split at h
  · rename_i es a b
    cases q : constsV es with
    | none => rw [q] at h; cases h
    | some vs => rw [q] at h; cases h
  · rename_i es a
    cases q : constsV es with
    | none => rw [q] at h; cases h
    | some vs => rw [q] at h; cases h
  · rename_i es a k b c d
    cases q : constsV es with
    | none => rw [q] at h; cases h
    | some vs => rw [q] at h; cases h
  · cases q : constV e with
    | none => rw [q] at h; cases h
    | some v =>
      rw [q] at h
      cases h
      exact pe_constV q
theorem pe_litR {e : Expr} {xs : List V} {k : Int} (h : litOf e = some (.r xs k)) : PE X e (tRep xs k) ∧ isStar e = false := by
  unfold litOf at h
  split at h
  · rename_i es a b
    cases q : constsV es with
    | none => rw [q] at h; cases h
    | some vs => rw [q] at h; cases h
  · rename_i es a
    cases q : constsV es with
    | none => rw [q] at h; cases h
    | some vs => rw [q] at h; cases h
  · rename_i es a k b c d
    cases q : constsV es with
    | none => rw [q] at h; cases h
    | some vs =>
      rw [q] at h
      cases h
      refine ⟨fun pins s σ H Q I q' => ?_, rfl⟩
      obtain ⟨hz, q'⟩ := q'
      exact (pe_op op_rep (pe_lst (pa_consts q)) pe_int : PE X _ _) pins s σ H Q I ⟨hz, fun p hp => ⟨p, k, _, rfl, rfl, upd_same, (q' p hp).1.1, (q' p hp).1.2.1, (q' p hp).1.2.2, (q' p hp).2⟩⟩
  · cases q : constV e with
    | none => rw [q] at h; cases h
    | some v => rw [q] at h; cases h
theorem pa_lits : ∀ {es : List Expr} {ls : List Lit}, litsOf es = some ls → PA X es (tLits ls)
  | [], vs, h => by
    cases h
    exact pa_nil
  | e :: es, vs, h => by
    unfold litsOf at h
    split at h
    · rename_i v ws h1 h2
      cases h
      cases v with
      | c v => exact pa_more (pe_litC h1).1 (pa_lits h2) (pe_litC (X := X) h1).2
      | t xs => exact pa_more (pe_litT h1).1 (pa_lits h2) (pe_litT (X := X) h1).2
      | l xs => exact pa_more (pe_litL h1).1 (pa_lits h2) (pe_litL (X := X) h1).2
      | r xs k => exact pa_more (pe_litR h1).1 (pa_lits h2) (pe_litR (X := X) h1).2
    · cases h
end
def LitAt (G H : Hp) : Lit → V → Prop
  | .c v, x => x = v
  | .t xs, x => ∃ p, x = .ref p ∧ G p = none ∧ H p = some (.tup xs)
  | .l xs, x => ∃ p, x = .ref p ∧ G p = none ∧ H p = some (.lst xs)
  | .r xs k, x => ∃ p, x = .ref p ∧ G p = none ∧ H p = some (.lst (List.replicate k.toNat xs).flatten)
theorem LitAt.keep {G H H' : Hp} (s : ∀ p o, G p = none → H p = some o → H' p = some o) : ∀ {l : Lit} {x : V}, LitAt G H l x → LitAt G H' l x
  | .c v, x, h => h
  | .t xs, x, ⟨p, e, g, h⟩ => ⟨p, e, g, s _ _ g h⟩
  | .l xs, x, ⟨p, e, g, h⟩ => ⟨p, e, g, s _ _ g h⟩
  | .r xs k, x, ⟨p, e, g, h⟩ => ⟨p, e, g, s _ _ g h⟩
theorem LitAt.same {G H H' : Hp} (s : Same H H') {l : Lit} {x : V} (h : LitAt G H l x) : LitAt G H' l x := h.keep fun p o _ e => s p o e
theorem LitAt.weak {G G' H : Hp} (s : ∀ p, G' p = none → G p = none) : ∀ {l : Lit} {x : V}, LitAt G' H l x → LitAt G H l x
  | .c v, x, h => h
  | .t xs, x, ⟨p, e, g, h⟩ => ⟨p, e, s _ g, h⟩
  | .l xs, x, ⟨p, e, g, h⟩ => ⟨p, e, s _ g, h⟩
  | .r xs k, x, ⟨p, e, g, h⟩ => ⟨p, e, s _ g, h⟩
def litLen : Lit → Bool
  | .c _ => true
  | .t xs => decide (xs.length ≤ 1000)
  | .l xs => decide (xs.length ≤ 1000)
  | .r xs k => decide (xs.length ≤ 1000 ∧ 0 ≤ k ∧ k ≤ 1000 ∧ xs.length * k.toNat ≤ 1000)
theorem new_same {H : Hp} {p : Addr} {o : HO} (h : H p = none) : Same H (upd H p o) := fun b u e => by rw [upd_ne (ne_of_none e h)]; exact e
theorem lits_read {σ : St} : ∀ (ls : List Lit) {H : Hp} {Q : List V → Hp → Prop}, ls.all litLen = true → (∀ vs H', Same H H' → Paired (LitAt H H') ls vs → Q vs H') → tLits ls σ H Q
  | [], H, Q, _, h => h [] H (Same.refl H) .nil
  | .c v :: ls, H, Q, hl, h => by
    rw [List.all_cons, Bool.and_eq_true] at hl
    exact lits_read ls hl.2 fun vs H' s p => h (v :: vs) H' s (.cons rfl p)
  | .t xs :: ls, H, Q, hl, h => by
    rw [List.all_cons, Bool.and_eq_true] at hl
    refine ⟨Nat.le_of_lt (small1000 (of_decide_eq_true hl.1)), fun p hp => lits_read ls hl.2 fun vs H' s q => h (.ref p :: vs) H' ((new_same hp).trans s) (.cons ⟨p, rfl, hp, s _ _ upd_same⟩ (Paired.mapP q fun _ _ => LitAt.weak fun c => (new_same hp).free))⟩
  | .l xs :: ls, H, Q, hl, h => by
    rw [List.all_cons, Bool.and_eq_true] at hl
    refine ⟨Nat.le_of_lt (small1000 (of_decide_eq_true hl.1)), fun p hp => lits_read ls hl.2 fun vs H' s q => h (.ref p :: vs) H' ((new_same hp).trans s) (.cons ⟨p, rfl, hp, s _ _ upd_same⟩ (Paired.mapP q fun _ _ => LitAt.weak fun c => (new_same hp).free))⟩
  | .r xs k :: ls, H, Q, hl, h => by
    rw [List.all_cons, Bool.and_eq_true] at hl
    have h1 : xs.length ≤ 1000 ∧ 0 ≤ k ∧ k ≤ 1000 ∧ xs.length * k.toNat ≤ 1000 := of_decide_eq_true hl.1
    refine ⟨Nat.le_of_lt (small1000 h1.1), fun p hp => ⟨⟨by omega, by omega, Nat.le_of_lt (small1000 h1.2.2.2)⟩, fun p2 hp2 => lits_read ls hl.2 fun vs H' s q => h (.ref p2 :: vs) H' (((new_same hp).trans (new_same hp2)).trans s)
      (.cons ⟨p2, rfl, (new_same hp).free hp2, s _ _ upd_same⟩ (Paired.mapP q fun _ _ => LitAt.weak fun c z => (new_same hp).free ((new_same hp2).free z)))⟩⟩
end L2
namespace L2
open PySem PySem.Spec PyProof.Rows
section
variable {X : Cx} {e v1 v2 : Expr} {es : List Expr} {te : TE} {t : Str → TE} {pos : Pos}
end
end L2
namespace L2
open PySem PySem.Spec PyProof.Rows
section
variable {X : Cx} {pins : List (Addr × Obj)} {σ : St} {H : Hp} {s : Shared} {a : Addr} {o : Obj} {u : HO}
theorem Inv.freeze (I : Inv X pins σ H s) (hm : Mut (some u)) (ha : H a = some u) (ho : s.heap.get? a = some o) : Inv X pins σ (upd H a (.frz o u)) s := by
  have new : ObjOk X.prog X.w (upd H a (.frz o u)) s.heap a (.frz o u) := by
    refine ⟨ho, (I.hok a u ha).stay (fun _ _ _ q => q) (fun c q => ?_) fun c xs q => ?_⟩
    · have hc : c ≠ a := fun z => by
        subst z
        rw [ha] at q
        cases q
        exact hm
      rw [upd_ne hc]
      exact q
    · have hc : c ≠ a := fun z => by
        subst z
        rw [ha] at q
        cases q
        exact hm
      rw [upd_ne hc]
      exact q
  exact I.write (t' := s.toks) (x := a) (e := a) (o := .frz o u) (h' := s.heap) (by rw [ha]; exact hm) (.inl rfl) (fun b v _ q => q) ⟨o, ho⟩ new
theorem Inv.thaw (I : Inv X pins σ H s) (ha : H a = some (.frz o u)) (h0 : ∀ o' u', X.H₀ a ≠ some (.frz o' u')) (hm : Mut (some u)) : Inv X pins σ (upd H a u) s := by
  have ne : ∀ {b : Addr} {v : HO}, H b = some v → (∀ o' u', v ≠ .frz o' u') → b ≠ a := fun {b v} e h z => by
    subst z
    rw [ha] at e
    exact h _ _ (Option.some.inj e).symm
  have nen : ∀ {b : Addr}, H b = none → b ≠ a := fun {b} e z => by
    subst z
    rw [ha] at e
    cases e
  refine ⟨I.ok, I.os, I.bare, ⟨I.base.keep, I.base.slot, fun b ob e n hx => ?_, I.base.there, fun b xs q => ?_, fun b ob v q => ?_, fun b ps q => ?_⟩, I.loc, I.cell, ?_, fun x c e => ?_, fun p hp => ?_, fun b v e => ?_, I.len⟩
  · have q := I.base.free b ob e n hx
    rw [upd_ne (nen q)]
    exact q
  · have q' := I.base.tups b xs q
    rw [upd_ne (ne q' fun _ _ z => nomatch z)]
    exact q'
  · have hb : b ≠ a := fun z => by
      subst z
      exact h0 _ _ q
    rw [upd_ne hb]
    exact I.base.frzs b ob v q
  · obtain ⟨more, z⟩ := I.base.tbls b ps q
    exact ⟨more, by rw [upd_ne (ne z fun _ _ z => nomatch z)]; exact z⟩
  · rw [upd_ne (nen I.free)]
    exact I.free
  · rw [upd_ne (nen (I.freeC x c e))]
    exact I.freeC x c e
  · obtain ⟨q1, q2, q3⟩ := I.pin p hp
    exact ⟨q1, by rw [upd_ne (nen q2)]; exact q2, q3⟩
  · have own : ∀ (c y : Addr), H c = some (.own y) → upd H a u c = some (.own y) := fun c y q => by
      rw [upd_ne (ne q fun _ _ z => nomatch z)]
      exact q
    have tup : ∀ (c : Addr) (xs : List V), H c = some (.tup xs) → upd H a u c = some (.tup xs) := fun c xs q => by
      rw [upd_ne (ne q fun _ _ z => nomatch z)]
      exact q
    by_cases hb : b = a
    · subst hb
      rw [upd_same] at e
      cases e
      obtain ⟨_, q⟩ := I.hok _ _ ha
      exact q.stay (fun _ _ _ q => q) (fun c q => own c _ q) tup
    · rw [upd_ne hb] at e
      exact (I.hok b v e).stay (fun _ _ _ q => q) (fun c q => own c _ q) tup
def tThaw (H0 : Hp) (t : TS) : TS := fun D σ H =>
  let un : (Hp → Prop) → Hp → Prop := fun Q H' => ∃ a o u, H' a = some (.frz o u) ∧ (∀ o' u', H0 a ≠ some (.frz o' u')) ∧ Mut (some u) ∧ Q (upd H' a u)
  t { nx := fun σ' H' => un (D.nx σ') H', rt := fun v H' => un (D.rt v) H', bk := D.bk, ct := D.ct } σ H
theorem ps_thaw {st : Stmt} {t : TS} (h : PS X st t) : PS X st (tThaw X.H₀ t) := by
  intro pins s σ H D I q
  refine thn (h pins s σ H _ I q) fun f s1 q1 => ?_
  cases f with
  | next =>
    obtain ⟨σ1, H1, I1, a, o, u, ha, h0, hm, q⟩ := q1
    exact ⟨σ1, _, I1.thaw ha h0 hm, q⟩
  | ret v =>
    obtain ⟨x, σ1, H1, I1, r, a, o, u, ha, h0, hm, q⟩ := q1
    exact ⟨x, σ1, _, I1.thaw ha h0 hm, r, q⟩
  | brk => exact q1
  | cont => exact q1
def tThawE (H0 : Hp) (t : TE) : TE := fun σ H Q => t σ H fun v H' => ∃ a o u, H' a = some (.frz o u) ∧ (∀ o' u', H0 a ≠ some (.frz o' u')) ∧ Mut (some u) ∧ Q v (upd H' a u)
theorem pe_thaw {e : Expr} {t : TE} (h : PE X e t) : PE X e (tThawE X.H₀ t) := by
  intro pins s σ H Q I q
  refine thn (h pins s σ H _ I q) fun v s1 ⟨x, H1, I1, r, a, o, u, ha, h0, hm, q⟩ => ?_
  exact ⟨x, _, I1.thaw ha h0 hm, r, q⟩
end
theorem rel_key {k : Key} {v : Value} (h : keyIs k v = true) : RelV (kV k) v := by
  rcases keyIs_shape h with ⟨i, t, rfl, rfl⟩ | ⟨x, t, rfl, rfl⟩
  · exact ⟨t, rfl⟩
  · exact ⟨t, rfl⟩
def Itd (a : Addr) (o : Obj) (kvs : List (Key × V)) : It where
  go := fun i H => i < kvs.length ∧ H a = some (.frz o (.dK kvs))
  yld := fun i H x H' => H' = H ∧ ∃ kv, kvs[i]? = some kv ∧ x = kV kv.1
  stop := fun i H => kvs.length ≤ i ∧ H a = some (.frz o (.dK kvs))
theorem kv_get {kvs : List (Key × V)} {vs : List (Key × Value)} : ∀ {i : Nat} {kv : Key × V}, KV kvs vs → kvs[i]? = some kv → ∃ v, vs[i]? = some (kv.1, v) ∧ RelV kv.2 v := by
  intro i kv r
  unfold KV at r
  induction r generalizing i with
  | nil => intro e; simp at e
  | @cons p q ps qs h t ih =>
    intro e
    cases i with
    | zero =>
      have e' := Option.some.inj e
      subst e'
      exact ⟨q.2, by rw [h.1]; rfl, h.2⟩
    | succ i => exact ih e
theorem turn_dK {P : Program} {w : World} {K : PySem.W.Frag} {tg : Expr} (a it : Addr) (o : Obj) (kvs : List (Key × V)) (es : Array DictEntry) (ep : Nat) (hd : o.data = .dict es ep) : Turn P w K tg (Itd a o kvs) [it] it (fun i h => h.IsKeyIter it a i kvs.length ep) where
  mem := by simp
  obj := fun i h st b hb => by
    have e : b = it := by simpa using hb
    subst e
    obtain ⟨o, e, c, d⟩ := st
    exact ⟨o, e, fun v z => by rw [d] at z; cases z⟩
  keep := fun i h h' st k => st.at fun o e => k it (by simp) o e
  item := by
    intro X hP hw hK hc i pins s σ H E I hf st hg
    subst hP hw hK
    obtain ⟨hi, hq⟩ := hg
    obtain ⟨ho, hz, hs, vs, r, o', es', ep', ho', hx', hd', r1, r2, r3⟩ := I.hok a _ hq
    have eo : o' = o := Option.some.inj (ho'.symm.trans ho)
    subst eo
    have ee : ep' = ep := by
      rw [hd] at hd'
      cases hd'
      rfl
    subst ee
    have hlen : kvs.length = vs.length := Paired.length r
    have hm : s.heap.DictAt (mixKind X.prog X.w) a vs ep' := ⟨o', es', ho, hx', hd', r1, r2, r3⟩
    obtain ⟨kv, ekv⟩ : ∃ kv, kvs[i]? = some kv := ⟨kvs[i], by simp [hi]⟩
    obtain ⟨v, ev, rv⟩ := kv_get r ekv
    obtain ⟨f0, f1, f2, f3, f4, f5⟩ := hf it (by simp)
    rw [hlen] at st
    refine wpAny_pyNext_dict_item st hm ev fun key h' hk st' sb => ?_
    have I1 : Inv X pins σ H { s with heap := h' } := I.turned (t' := s.toks) (fun b o hb e => (sb.2 b hb).trans e) f0 f1 f3 f4 f5
    rw [← hlen] at st'
    obtain ⟨oi, ei, ci, di⟩ := id st'
    exact ⟨key, rfl, go_of (s := { s with heap := h' }) ei ci di (by decide) ⟨kV kv.1, H, I1, rel_key hk, ⟨rfl, kv, ekv, rfl⟩, st', fun b hb => (hf b hb).1⟩⟩
  done := by
    intro X hP hw hK hc i pins s σ H E I hf st hg
    subst hP hw hK
    obtain ⟨hi, hq⟩ := hg
    obtain ⟨ho, hz, hs, vs, r, o', es', ep', ho', hx', hd', r1, r2, r3⟩ := I.hok a _ hq
    have eo : o' = o := Option.some.inj (ho'.symm.trans ho)
    subst eo
    have ee : ep' = ep := by
      rw [hd] at hd'
      cases hd'
      rfl
    subst ee
    have hlen : kvs.length = vs.length := Paired.length r
    have hm : s.heap.DictAt (mixKind X.prog X.w) a vs ep' := ⟨o', es', ho, hx', hd', r1, r2, r3⟩
    obtain ⟨f0, f1, f2, f3, f4, f5⟩ := hf it (by simp)
    rw [hlen] at st
    exact wpAny_pyNext_dict_end (I.ok.hd hc) st hm (List.getElem?_eq_none_iff.mpr (by omega)) fun h' eb => ⟨rfl, I.turned (t' := s.toks) (fun b o hb e => eb b o hb e) f0 f1 f3 f4 f5⟩
  self := fun _ _ _ _ _ st h => wpAny_pyIter_keyiter st h
def iDk (tl : TE) : TI := fun σ H R => tl σ H fun x H1 => ∃ a kvs, x = .ref a ∧ H1 a = some (.dK kvs) ∧ ∀ o, R (Itd a o kvs) (upd H1 a (.frz o (.dK kvs)))
theorem pi_dK {X : Cx} {tg l : Expr} {tl : TE} (hl : PE X l tl) : PI X tg l (iDk tl) := by
  intro pins s σ H R I h
  refine thn (hl pins s σ H _ I h) fun v s1 ⟨x, H1, I1, r1, q1⟩ => ?_
  obtain ⟨a, kvs, e, hq, q⟩ := q1
  subst e
  cases r1
  obtain ⟨hz, hs, vs, r, o, es, ep, ho, hx, hd, r1, r2, r3⟩ := I1.hok a _ hq
  have hlen : kvs.length = vs.length := Paired.length r
  have hm : s1.heap.DictAt (mixKind X.prog X.w) a vs ep := ⟨o, es, ho, hx, hd, r1, r2, r3⟩
  refine wpAny_pyIter_dict hs hm ?_
  have I2 := I1.freeze (show Mut (some (HO.dK kvs)) from True.intro) hq ho
  have hn : upd H1 a (.frz o (.dK kvs)) s1.heap.objs.size = none := I2.hok.fresh (Nat.le_refl _)
  refine ⟨s1.heap.objs.size, [s1.heap.objs.size], _, _, _, rfl, I2.kept (t' := s1.toks) fun b o e => Heap.get?_push_of_some _ e, turn_dK a _ o kvs es ep hd, ?_, fun b hb => ?_, q o⟩
  · rw [hlen]
    exact ⟨_, Heap.get?_push_size _ rfl, rfl, rfl⟩
  · have e : b = s1.heap.objs.size := by simpa using hb
    subst e
    exact I2.fpOk (Nat.le_refl _) hn
end L2
namespace L2
open PySem PySem.Spec PyProof.Rows
def ViewV (v d : Addr) : HO := .ext fun h => h.IsValuesView v d
def Itv (a : Addr) (o : Obj) (kvs : List (Key × V)) : It where
  go := fun i H => i < kvs.length ∧ H a = some (.frz o (.dK kvs))
  yld := fun i H x H' => H' = H ∧ ∃ kv, kvs[i]? = some kv ∧ x = kv.2
  stop := fun i H => kvs.length ≤ i ∧ H a = some (.frz o (.dK kvs))
section
variable {X : Cx}
theorem mt_values : MtR X "dict.values" (fun x xs H Q => ∃ d kvs, x = .ref d ∧ xs = [] ∧ H d = some (.dK kvs) ∧ ∀ p, H p = none → Q (.ref p) (upd H p (ViewV p d))) := by
  intro pins s σ H x xs v us Q I rx rs h
  obtain ⟨d, kvs, rfl, rfl, hq, q⟩ := h
  cases rx
  cases rs
  obtain ⟨hz, hs, vs, r, hd⟩ := I.hok d _ hq
  refine call_meetsIn PySem.F.slot_dict_values hd.typeIs PySem.F.entry_dict_values (PySem.F.args_dict_values_1 _) (meets_dict_values (mixKind X.prog X.w) d hs) ⟨⟨vs, hd⟩, ?_⟩
  refine ⟨.ref s.heap.objs.size, _, I.laid (t' := s.toks) (o := ViewV s.heap.objs.size d) (fun b ob q => Heap.get?_push_of_some _ q) (Nat.le_refl _) ?_, rfl, q _ I.fresh⟩
  refine ⟨⟨_, Heap.get?_push_size _ rfl, rfl, rfl⟩, ⟨_, Heap.get?_push_size _ rfl⟩, fun h1 h2 p k => ?_⟩
  obtain ⟨o, e, c, d⟩ := p
  exact ⟨o, k o e, c, d⟩
end
theorem turn_vK {P : Program} {w : World} {K : PySem.W.Frag} {tg : Expr} (a it : Addr) (o : Obj) (kvs : List (Key × V)) (es : Array DictEntry) (ep : Nat) (hd : o.data = .dict es ep) : Turn P w K tg (Itv a o kvs) [it] it (fun i h => h.IsValIter it a i kvs.length ep) where
  mem := by simp
  obj := fun i h st b hb => by
    have e : b = it := by simpa using hb
    subst e
    obtain ⟨o, e, c, d⟩ := st
    exact ⟨o, e, fun v z => by rw [d] at z; cases z⟩
  keep := fun i h h' st k => st.at fun o e => k it (by simp) o e
  item := by
    intro X hP hw hK hc i pins s σ H E I hf st hg
    subst hP hw hK
    obtain ⟨hi, hq⟩ := hg
    obtain ⟨ho, hz, hs, vs, r, o', es', ep', ho', hx', hd', r1, r2, r3⟩ := I.hok a _ hq
    have eo : o' = o := Option.some.inj (ho'.symm.trans ho)
    subst eo
    have ee : ep' = ep := by
      rw [hd] at hd'
      cases hd'
      rfl
    subst ee
    have hlen : kvs.length = vs.length := Paired.length r
    have hm : s.heap.DictAt (mixKind X.prog X.w) a vs ep' := ⟨o', es', ho, hx', hd', r1, r2, r3⟩
    obtain ⟨kv, ekv⟩ : ∃ kv, kvs[i]? = some kv := ⟨kvs[i], by simp [hi]⟩
    obtain ⟨v, ev, rv⟩ := kv_get r ekv
    obtain ⟨f0, f1, f2, f3, f4, f5⟩ := hf it (by simp)
    rw [hlen] at st
    refine wpAny_pyNext_values_item st hm ev fun h' st' sb => ?_
    have I1 : Inv X pins σ H { s with heap := h' } := I.turned (t' := s.toks) (fun b o hb e => (sb.2 b hb).trans e) f0 f1 f3 f4 f5
    rw [← hlen] at st'
    obtain ⟨oi, ei, ci, di⟩ := id st'
    exact ⟨v, rfl, go_of (s := { s with heap := h' }) ei ci di (by decide) ⟨kv.2, H, I1, rv, ⟨rfl, kv, ekv, rfl⟩, st', fun b hb => (hf b hb).1⟩⟩
  done := by
    intro X hP hw hK hc i pins s σ H E I hf st hg
    subst hP hw hK
    obtain ⟨hi, hq⟩ := hg
    obtain ⟨ho, hz, hs, vs, r, o', es', ep', ho', hx', hd', r1, r2, r3⟩ := I.hok a _ hq
    have eo : o' = o := Option.some.inj (ho'.symm.trans ho)
    subst eo
    have ee : ep' = ep := by
      rw [hd] at hd'
      cases hd'
      rfl
    subst ee
    have hlen : kvs.length = vs.length := Paired.length r
    have hm : s.heap.DictAt (mixKind X.prog X.w) a vs ep' := ⟨o', es', ho, hx', hd', r1, r2, r3⟩
    obtain ⟨f0, f1, f2, f3, f4, f5⟩ := hf it (by simp)
    rw [hlen] at st
    exact wpAny_pyNext_values_end (I.ok.hd hc) st hm (List.getElem?_eq_none_iff.mpr (by omega)) fun h' eb => ⟨rfl, I.turned (t' := s.toks) (fun b o hb e => eb b o hb e) f0 f1 f3 f4 f5⟩
  self := fun _ _ _ _ _ st h => wpAny_pyIter_valiter st h
def iVk (tl : TE) : TI := fun σ H R => tl σ H fun x H1 => ∃ v a kvs, x = .ref v ∧ H1 v = some (ViewV v a) ∧ H1 a = some (.dK kvs) ∧ ∀ o, R (Itv a o kvs) (upd H1 a (.frz o (.dK kvs)))
theorem pi_vK {X : Cx} {tg l : Expr} {tl : TE} (hl : PE X l tl) : PI X tg l (iVk tl) := by
  intro pins s σ H R I h
  refine thn (hl pins s σ H _ I h) fun v s1 ⟨x, H1, I1, r1, q1⟩ => ?_
  obtain ⟨v, a, kvs, e, hv, hq, q⟩ := q1
  subst e
  cases r1
  obtain ⟨hz, hs, vs, r, o, es, ep, ho, hx, hd, r1, r2, r3⟩ := I1.hok a _ hq
  have hlen : kvs.length = vs.length := Paired.length r
  have hm : s1.heap.DictAt (mixKind X.prog X.w) a vs ep := ⟨o, es, ho, hx, hd, r1, r2, r3⟩
  obtain ⟨hvv, _, _⟩ := (show ObjOk X.prog X.w H1 s1.heap v (ViewV v a) from I1.hok v _ hv)
  refine wpAny_pyIter_values hvv hm ?_
  have I2 := I1.freeze (show Mut (some (HO.dK kvs)) from True.intro) hq ho
  have hn : upd H1 a (.frz o (.dK kvs)) s1.heap.objs.size = none := I2.hok.fresh (Nat.le_refl _)
  refine ⟨s1.heap.objs.size, [s1.heap.objs.size], _, _, _, rfl, I2.kept (t' := s1.toks) fun b o e => Heap.get?_push_of_some _ e, turn_vK a _ o kvs es ep hd, ?_, fun b hb => ?_, q o⟩
  · rw [hlen]
    exact ⟨_, Heap.get?_push_size _ rfl, rfl, rfl⟩
  · have e : b = s1.heap.objs.size := by simpa using hb
    subst e
    exact I2.fpOk (Nat.le_refl _) hn
end L2
namespace SortT
open PySem PyProof.Rows PySem.W
section
variable {n : Nat} {p : Array Nat}
variable {f : Nat → Nat → Bool}
end
end SortT
namespace L2
open PySem PySem.Spec PyProof.Rows PySem.W
section
variable {prog : Program} {w : World} {A : Around} {E : Value → Shared → Prop} {s : Shared}
end
section
variable {X : Cx} {pins : List (Addr × Obj)} {σ : St} {H : Hp} {s : Shared}
end
end L2
namespace L2
open PySem PySem.Spec PyProof.Rows
def TupI (K : PySem.W.Frag) (H : Hp) (x : V) (ns : List Int) : Prop := ∃ a, x = .ref a ∧ SqT K H a (ns.map V.int)
noncomputable def isT (K : PySem.W.Frag) (H : Hp) (n : List Int) (u : Value) : Bool := @decide (∃ a, u = .ref a ∧ SqT K H a (n.map V.int)) (Classical.propDecidable _)
theorem map_int_inj {ns ms : List Int} (h : ns.map V.int = ms.map V.int) : ns = ms := by
  induction ns generalizing ms with
  | nil => cases ms with
    | nil => rfl
    | cons _ _ => cases h
  | cons n ns ih => cases ms with
    | nil => cases h
    | cons m ms =>
      rw [List.map_cons, List.map_cons] at h
      injection h with h1 h2
      injection h1 with h1
      rw [h1, ih h2]
section
variable {X : Cx} {pins : List (Addr × Obj)} {σ : St} {H : Hp} {s : Shared}
theorem isT_is (I : Inv X pins σ H s) {x : V} {u : Value} {ns n : List Int} (h : TupI X.K H x ns) (r : RelV x u) : isT X.K H n u = decide (ns = n) := by
  obtain ⟨a, rfl, ha⟩ := h
  cases r
  unfold isT
  by_cases e : ns = n
  · subst e
    rw [decide_eq_true rfl]
    exact @decide_eq_true _ (Classical.propDecidable _) ⟨a, rfl, ha⟩
  · rw [decide_eq_false e]
    refine @decide_eq_false _ (Classical.propDecidable _) fun ⟨b, z, hb⟩ => ?_
    cases z
    exact e (map_int_inj (I.tuple_inj ha hb))
theorem tups_eqAt (I : Inv X pins σ H s) {A : Around} (hu : A.units + 60 < cLine) {x : V} {v : Value} {n : List Int} (hx : TupI X.K H x n) (rx : RelV x v) : ∀ {xs : List V} {us : List Value} {nss : List (List Int)}, Vals xs us → Paired (TupI X.K H) xs nss → ∀ u ∈ us, SeqAt.EqAt A s u v (isT X.K H n u)
  | _, _, _, .nil, _ => fun u hu => by cases hu
  | y :: xs, w :: us, m :: nss, .cons r t, .cons h hs => fun u hm => by
    rcases List.mem_cons.mp hm with rfl | hm
    · rw [isT_is I h r]
      obtain ⟨a, rfl, ha⟩ := h
      obtain ⟨b, rfl, hb⟩ := hx
      have q := eqAt_D I 60 (.tup (m.map Dt.int)) (.tup (n.map Dt.int)) (.ref a) (.ref b) u v A (dep_tupI _) hu (hasD_tupI ha) (hasD_tupI hb) r rx
      rw [eqD_tupI] at q
      exact q
    · exact tups_eqAt I hu hx rx t hs u hm
theorem tups_any (I : Inv X pins σ H s) {n : List Int} : ∀ {xs : List V} {us : List Value} {nss : List (List Int)}, Vals xs us → Paired (TupI X.K H) xs nss → us.any (isT X.K H n) = decide (n ∈ nss)
  | _, _, _, .nil, .nil => by simp
  | y :: xs, w :: us, m :: nss, .cons r t, .cons h hs => by
    rw [List.any_cons, isT_is I h r, tups_any I t hs]
    by_cases e : m = n
    · subst e; simp
    · have e' : ¬ n = m := fun z => e z.symm
      simp [e, e']
def rInT (K : PySem.W.Frag) (neg : Bool) : R2 := fun x y H Q => ∃ p xs n nss, y = .ref p ∧ SqL K H p xs ∧ TupI K H x n ∧ Paired (TupI K H) xs nss ∧ Q (.bl (if neg then !decide (n ∈ nss) else decide (n ∈ nss))) H
end
section
variable {X : Cx}
theorem op_notInT (hu : X.A.units + 64 < cLine) : OpR X (compareOp .NotIn) (rInT X.K true) := by
  intro pins s σ H x y v u Q I rx ry h
  obtain ⟨p, xs, n, nss, rfl, hq, hx, hs, q⟩ := h
  cases ry
  obtain ⟨its, r, pl, hz⟩ := I.list hq
  refine SeqAt.notIn_listAt (isT X.K H n) pl.isList (fun w hw => tups_eqAt I ?_ hx rx r hs w (by simpa using hw)) ⟨.bl _, H, I, rfl, ?_⟩
  · first | (have e : X.A.in1.units = X.A.units + 1 := rfl; omega) | (have e : X.A.in1.units = X.A.units := rfl; omega) | (have e := Around.units_in1 X.A; omega)
  · rw [show its.toArray.any (isT X.K H n) = its.any (isT X.K H n) by simp, tups_any I r hs]
    exact q
end
end L2
namespace L2
open PySem PySem.Spec PyProof.Rows
section
variable {X : Cx} {pins : List (Addr × Obj)} {σ : St} {H H' : Hp} {s s' : Shared} {ea : Addr} {cls : Value}
end
section
variable {X : Cx} {scope : Scope} {N' : List Str} {ix : List (Option Nat)} {C : Addr} {fp : List Addr} {s₂ : Shared} {H₂ : Hp} {pins : List (Addr × Obj)} {σ : St}
theorem blk_leave0 (I : Inv X pins σ H₂ s₂) (hf : ∀ b ∈ fp, FpOk X pins H₂ b) {ps : List (Addr × Obj)} {σ' : St} {H' : Hp} {s' : Shared} (I' : Inv (blk X scope N' C fp s₂ H₂) ps σ' H' s') : Inv X pins σ H' s' :=
  I.call' (ch := fp) I'.os I'.base I'.hok I'.bare fun b hb => by
    obtain ⟨_, f1, _, f3, f4, f5⟩ := hf b hb
    exact ⟨f3, f1, f4, f5⟩
end
section
variable {prog : Program} {w : World} {A : Around} {R : Result → Shared → Prop} {s : Shared}
end
section
variable {X : Cx} {scope : Scope} {N' : List Str} {ix : List (Option Nat)}
variable {tg iter elt : Expr} {ifs : List Expr} {pos : Pos} {wi : TI} {g : TG} {ti : TT} {te : TE} {W : Value → Hp → Prop}
end
end L2
namespace L2
open PySem PySem.Spec PyProof.Rows
section
variable {X : Cx} {pins : List (Addr × Obj)} {σ : St} {H : Hp} {s : Shared} {a : Addr} {y v : V} {u r : Value} {A : Around} {E : Value → Shared → Prop}
theorem d_dictSet {H' : Hp} {Q : Unit → Shared → Prop} (hu : A.units < cLine) (I : Inv X pins σ H s) (g : DPut H a y v H') (ry : RelV y u) (rv : RelV v r) (h : ∀ s', Inv X pins σ H' s' → Q () s') : wpAny (model X.prog X.w) A (dictSet a u r) Q E s := by
  rcases g with ⟨kvs, k, e, ey, l, eH⟩ | ⟨kvs, k, b, e, ey, eb, l, eH⟩
  · subst ey eH
    obtain ⟨z, hd, vs, rel, dd⟩ := dk_of I.hok e
    have hz : vs.length ≤ sizeLine := by rw [← rel.length]; exact z
    have hl : (putK kvs k v).length ≤ sizeLine := by have := length_putK kvs k v; omega
    refine wpAny_dictSet_pairs (hsz := hz) (kV_is ry) dd fun h' dd' hs => h _ ?_
    have he : ∃ q, h'.get? a = some q := let ⟨q, _, _, hq, _⟩ := dd'; ⟨q, hq⟩
    exact d_write I (by rw [e]; exact True.intro) hs he (dk_new hl hd (rel.put k rv) dd')
  · subst ey eH
    cases (show u = Value.ref b from ry)
    obtain ⟨z, hd, xs, rel, dd⟩ := dt_of I.hok e
    have hz : xs.length ≤ sizeLine := by rw [← Paired.length rel]; exact z
    have hl : (putK kvs k v).length ≤ sizeLine := by have := length_putK kvs k v; omega
    refine wpAny_dictSet_heap (hsz := hz) (knd := tupleKind (mixKind X.prog X.w)) hu (key_of I.hok eb) dd fun h' dd' hs => h _ ?_
    obtain ⟨q, es, ep, hq, h2, h3, h4, _, h5⟩ := dd'
    refine d_write I (by rw [e]; exact True.intro) hs ⟨q, hq⟩ ⟨hl, hd, _, (rel.put k eb rv).keeps fun c ys ec => ?_, q, es, ep, hq, h2, h3, h4, h5⟩
    rw [upd_ne (ne_of ec e (fun z => nomatch z))]
    exact ec
end
section
variable {prog : Program} {w : World} {A : Around} {R : Result → Shared → Prop} {s : Shared}
theorem dcLoop_own {kx vx target iter : Expr} {ifs : List Expr} {scope : Scope} {pos : Pos} {it : Value} {D : Addr} {env : Env} (I : Nat → Shared → Prop)
    (turn : ∀ n s, I n s → wpAny (model prog w) A (pyNext it) (fun r s₁ => match r with
      | none => R (.ok .next) s₁
      | some v => wpAny (model prog w) A (letOwnedTupleGo target it v) (fun _ s₁ => wpAny (model prog w) A (assign target env v) (fun _ s₂ => wpAny (model prog w) A (forIn ifs true fun c r => if r = true then do let ok ← isTrue c env (eval c env); pure (ForInStep.yield ok) else pure (ForInStep.yield r)) (fun ok s₃ =>
            if ok = true then wpAny (model prog w) A (eval kx env) (fun kv s₄ => wpAny (model prog w) A (eval vx env) (fun vv s₅ => wpAny (model prog w) A (dictSet D kv vv) (fun _ s₆ => ∃ m, m < n ∧ I m s₆) NoE s₅) NoE s₄) NoE s₃
            else ∃ m, m < n ∧ I m s₃) NoE s₂) NoE s₁) NoE s₁) NoE s)
    (n : Nat) (h : I n s) : codeAny (model prog w) A (.compLoop (.DictComp kx vx [⟨target, iter, ifs, 0⟩] scope pos) 0 it (.ref D) env) R s := by
  refine codeAny_loop rfl I (fun n s hI => ?_) n h
  have no : ∀ {α : Type} {t : Sem α} {Q : α → Shared → Prop} {E : Value → Shared → Prop} {s : Shared}, wpAny (model prog w) A t Q NoE s → wpAny (model prog w) A t Q E s := fun h => wpAny_mono h (fun _ _ q => q) fun _ _ z => z.elim
  show wpAny _ A ((compTurn (.DictComp kx vx [⟨target, iter, ifs, 0⟩] scope pos) 0 it (.ref D) env).onRaise (fun x => do noteFrame x env; theTreesLotGoes x)) _ _ s
  rw [compTurn_dict]
  refine wpAny_noted (wpAny_bind (wpAny_standAt (wpAny_bind (no (thn (turn n s hI) fun r s₁ h₁ => ?_)))))
  cases r with
  | none => exact wpAny_pure h₁
  | some v =>
    refine wpAny_bind (no (thn h₁ fun _ s₁ h₁ => wpAny_bind (no (thn h₁ fun _ s₂ h₂ => wpAny_bind (no (thn h₂ fun ok s₃ h₃ => ?_))))))
    cases ok with
    | false => exact wpAny_pure ⟨rfl, h₃⟩
    | true =>
      refine wpAny_bind (wpAny_bind (no (thn h₃ fun kv s₄ h₄ => wpAny_bind (wpAny_holding (no (thn h₄ fun vv s₅ h₅ => ?_))))))
      exact wpAny_bind (wpAny_standAt (wpAny_holding (no (thn h₅ fun _ s₆ h₆ => wpAny_pure ⟨rfl, h₆⟩))))
end
section
variable {X : Cx} {scope : Scope} {N' : List Str} {ix : List (Option Nat)} {C : Addr} {fp : List Addr} {s₂ : Shared} {H₂ : Hp} {pins : List (Addr × Obj)} {σ : St}
theorem blk_start0 (I : Inv X pins σ H₂ s₂) (co : CompOk X.N X.env.scope scope N' ix) {h₁ : Heap} {t' : Nat} (hC : @Eq Nat C s₂.heap.objs.size) (hf : ∀ b ∈ fp, FpOk X pins H₂ b) (hlt : ∀ b ∈ fp, b < s₂.heap.objs.size)
    (old : ∀ b o, s₂.heap.get? b = some o → h₁.get? b = some o) {m : Str → Option Value} (hns : h₁.Ns C m) :
    Inv (blk X scope N' C fp s₂ H₂) [] (blkSt ix σ) H₂ { s₂ with heap := h₁, toks := t' } where
  ok := blk_ok I co (by omega) hf hlt
  os := rfl
  bare := I.bare
  base := Un.kept old
  loc := by
    refine ⟨m, hns, fun i x v e1 e2 e3 => ?_⟩
    unfold blkSt at e2
    rw [List.getElem?_map] at e2
    cases q : ix[i]? with
    | none => rw [q] at e2; cases e2
    | some o =>
      rw [q] at e2
      cases o with
      | none => cases e2
      | some k =>
        have e2' : (σ[k]?).join = some v := Option.some.inj e2
        have e2'' : σ[k]? = some (some v) := by
          cases z : σ[k]? with
          | none => rw [z] at e2'; cases e2'
          | some o => rw [z] at e2'; exact congrArg some e2'
        obtain ⟨o1, o2, o3⟩ := co.out i x k e1 q
        have hk : X.env.kindOf x = some .cell ∨ X.env.kindOf x = some .free := co.frees _ o2 rfl
        obtain ⟨m0, _, hl⟩ := I.loc
        obtain ⟨u, r, l⟩ := hl k x v o1 e2'' (.inr hk)
        refine ⟨u, r, ?_⟩
        rcases l with ⟨l, _⟩ | ⟨_, c, ec, hcell⟩
        · rcases hk with z | z
          · rw [z] at l; cases l
          · rw [z] at l; cases l
        · refine .inr ⟨?_, c, clOf_has o2 ec, ?_⟩
          · rcases e3 with z | z | z
            · obtain ⟨k', hm, q⟩ := lookup_relabel z
              rcases q with q | ⟨_, q⟩
              · have := o3 _ hm rfl
                rw [show k' = NameKind.local from q] at this
                cases this
              · cases q
            · exact .inl z
            · exact .inr z
          · obtain ⟨o, ho, hd⟩ := hcell
            exact ⟨o, old _ _ ho, hd⟩
  cell := fun x c e => by
    obtain ⟨v, o, ho, hd⟩ := I.cell x c (clOf_env e)
    exact ⟨v, o, old _ _ ho, hd⟩
  free := I.hok.fresh (by show @LE.le Nat _ s₂.heap.objs.size C; omega)
  freeC := fun x c e => I.freeC x c (clOf_env e)
  pin := fun p hp => by
    have hp' : p ∈ ([] : List (Addr × Obj)) := by simpa [blk] using hp
    cases hp'
  hok := I.hok.kept old
  len := by unfold blkSt; rw [List.length_map]; exact co.len
end
def DcW (J : It) (g : TG) (ti : TT) (tk tv : TE) (D : Addr) (QF : Hp → Prop) (W : Nat → Nat → St → Hp → Prop) : Prop := ∀ i m σ H, W i m σ H → (J.stop i H ∧ QF H) ∨
  (J.go i H ∧ ∃ N : St → Hp → Prop, (∀ σ' H', N σ' H' → ∃ m', m' < m ∧ W (i + 1) m' σ' H') ∧
    ∀ x H', J.yld i H x H' → g x σ H' fun σ2 H2 => ti σ2 H2 fun b H3 => if b = true then tk σ2 H3 fun y H4 => tv σ2 H4 fun z H5 => ∃ H6, DPut H5 D y z H6 ∧ N σ2 H6 else N σ2 H3)
def tDc (new : HO) (ix : List (Option Nat)) (wi : TI) (g : TG) (ti : TT) (tk tv : TE) : TE := fun σ H Q => wi σ H fun J H1 => ∀ D, H1 D = none → ∃ W : Nat → Nat → St → Hp → Prop, (∃ m, W 0 m (blkSt ix σ) (upd H1 D new)) ∧ DcW J g ti tk tv D (fun H => Q (.ref D) H) W
section
variable {X : Cx}
theorem dblk_run {scope : Scope} {N' : List Str} {ix : List (Option Nat)} {pins : List (Addr × Obj)} {σ : St} {tg iter kx vx : Expr} {ifs : List Expr} {pos : Pos} {g : TG} {ti : TT} {tk tv : TE} {E : Value → Shared → Prop} {D : Addr}
    (co : CompOk X.N X.env.scope scope N' ix) (hc : X.calm = true) (hu : X.A.units < cLine)
    (hg : ∀ C fp s₂ H₂, PG (blk X scope N' C fp s₂ H₂) tg g) (hi : ∀ C fp s₂ H₂, PIf (blk X scope N' C fp s₂ H₂) ifs ti) (hk : ∀ C fp s₂ H₂, PE (blk X scope N' C fp s₂ H₂) kx tk) (hv : ∀ C fp s₂ H₂, PE (blk X scope N' C fp s₂ H₂) vx tv)
    {H₂ : Hp} {s₂ : Shared} {J : It} {fp : List Addr} {it : Addr} {tn : Nat → Heap → Prop} {QF : Hp → Prop} {W : Nat → Nat → St → Hp → Prop}
    (I : Inv X pins σ H₂ s₂) (T : Turn X.prog X.w X.K tg J fp it tn) (st : tn 0 s₂.heap) (hf : ∀ b ∈ fp, FpOk X pins H₂ b) (w0 : ∃ m, W 0 m (blkSt ix σ) H₂) (hW : DcW J g ti tk tv D QF W)
    {RR : Addr → Result → Shared → Prop} (hRR : ∀ C H' s', Inv X pins σ H' s' → QF H' → Gone X pins H' s' C → RR C (.ok .next) s') :
    wpAny (model X.prog X.w) X.A (newFunctionEnv scope X.env.globals (clOf scope X.env) [] X.env.qual none .none (some X.env)) (fun cenv s₄ =>
      codeAny (model X.prog X.w) X.A (.compStart (.DictComp kx vx [⟨tg, iter, ifs, 0⟩] scope pos) 0 (.ref it) (.ref D) { cenv with scope := relabel scope X.env }) (RR cenv.locals) s₄) E s₂ := by
  have hlt : ∀ b ∈ fp, @LT.lt Nat _ b s₂.heap.objs.size := fun b hb => by
    obtain ⟨o, e, _⟩ := T.obj _ _ st b hb
    exact Heap.lt_size e
  refine wpAny_newFunctionEnv co.nocell (by intro y hy; simp at hy) (fun h₁ hns₁ hsb₁ => ?_) co.kind
  have below : ∀ b : Nat, b < s₂.heap.objs.size → ¬ @Eq Nat b s₂.heap.objs.size := fun b hb => by omega
  have old : ∀ b o, s₂.heap.get? b = some o → h₁.get? b = some o := fun b o e => hsb₁.extBut b o (below b (Heap.lt_size e)) (Heap.get?_push_of_some _ e)
  have st₁ : tn 0 h₁ := T.keep _ _ _ st fun b _ o e => old b o e
  generalize hCe : s₂.heap.objs.size = C at hns₁ hsb₁ below ⊢
  have loop : ∀ s₃ : Shared, s₃ = { s₂ with heap := h₁, toks := s₂.toks + ([] : List (Str × Value)).length } →
      codeAny (model X.prog X.w) X.A (.compLoop (.DictComp kx vx [⟨tg, iter, ifs, 0⟩] scope pos) 0 (.ref it) (.ref D) (compEnvC scope (clOf scope X.env) C X.env)) (RR C) s₃ := by
    rintro s₃ rfl
    obtain ⟨m0, w0⟩ := w0
    have I3 : Inv (blk X scope N' C fp s₂ H₂) [] (blkSt ix σ) H₂ { s₂ with heap := h₁, toks := s₂.toks + ([] : List (Str × Value)).length } := blk_start0 I co hCe.symm hf hlt old hns₁
    refine dcLoop_own (fun k s' => ∃ i σ' H', Inv (blk X scope N' C fp s₂ H₂) [] σ' H' s' ∧ tn i s'.heap ∧ (∀ b ∈ fp, H' b = none) ∧ W i k σ' H') ?_ m0 ⟨0, _, _, I3, st₁, fun b hb => (hf b hb).1, w0⟩
    rintro k s' ⟨i, σ', H', I', st', fr', w'⟩
    have fpok : ∀ {H' : Hp}, (∀ b ∈ fp, H' b = none) → ∀ b ∈ fp, FpOk (blk X scope N' C fp s₂ H₂) [] H' b := fun {H'} hn b hb => by
      refine ⟨hn b hb, below b (hCe ▸ hlt b hb), fun z => ?_, .inl hb, fun x c e => (hf b hb).2.2.2.2.1 x c (clOf_env e), fun p hp => ?_⟩
      · rcases List.mem_cons.mp (I.stkSub b z) with e | e
        · exact (hf b hb).2.1 e
        · exact (hf b hb).2.2.1 e
      · have hp' : p ∈ ([] : List (Addr × Obj)) := by simpa [blk] using hp
        cases hp'
    rcases hW i k σ' H' w' with ⟨stop, q⟩ | ⟨go, N, hN, step⟩
    · refine thn (T.done (blk X scope N' C fp s₂ H₂) rfl rfl rfl hc i _ s' σ' H' NoE I' (fpok fr') st' stop) fun r s4 ⟨hr, I4⟩ => ?_
      subst hr
      have cf : H' C = none := I4.free
      refine hRR C H' s4 (blk_leave0 I hf I4) q ⟨?_, cf, ?_, ?_, fun x c e => ?_, fun p hp => ?_⟩
      · obtain ⟨m, hn, _⟩ := I4.loc
        exact ⟨m, hn⟩
      · have z : @LT.lt Nat _ X.env.locals s₂.heap.objs.size := I.lt
        show ¬ @Eq Nat C X.env.locals
        omega
      · have z : @LE.le Nat _ X.s₀.heap.objs.size s₂.heap.objs.size := I.sz
        show @LE.le Nat _ X.s₀.heap.objs.size C
        omega
      · obtain ⟨v, z⟩ := I.cell x c e
        have z2 : @LT.lt Nat _ c s₂.heap.objs.size := z.lt
        show ¬ @Eq Nat c C
        omega
      · have z2 : @LT.lt Nat _ p.1 s₂.heap.objs.size := Heap.lt_size (I.pin p hp).1
        show ¬ @Eq Nat p.1 C
        omega
    · refine thn (T.item (blk X scope N' C fp s₂ H₂) rfl rfl rfl hc i _ s' σ' H' NoE I' (fpok fr') st' go) fun r s4 ⟨u, hr, h4⟩ => ?_
      subst hr
      refine thn h4 fun _ s5 ⟨x, H5, I5, r5, y5, st5, fr5⟩ => ?_
      have I5' := I5.pinned (fpok fr5) (T.obj _ _ st5)
      refine thn (hg C fp s₂ H₂ _ s5 σ' H5 x u _ I5' r5 (step x H5 y5)) fun _ s6 ⟨σ6, H6, I6, q6⟩ => ?_
      refine thn (hi C fp s₂ H₂ _ s6 σ6 H6 _ I6 q6) fun ok s7 ⟨H7, I7, q7⟩ => ?_
      have back : ∀ {σ8 : St} {H8 : Hp} {s8 : Shared}, Inv (blk X scope N' C fp s₂ H₂) ([] ++ pinsAt fp s5.heap) σ8 H8 s8 → N σ8 H8 → ∃ m', m' < k ∧ ∃ i σ' H', Inv (blk X scope N' C fp s₂ H₂) [] σ' H' s8 ∧ tn i s8.heap ∧ (∀ b ∈ fp, H' b = none) ∧ W i m' σ' H' := fun {σ8 H8 s8} I8 n8 => by
        obtain ⟨m', hm, w8⟩ := hN _ _ n8
        have fpin : ∀ b ∈ fp, ∀ o, s5.heap.get? b = some o → s8.heap.get? b = some o ∧ H8 b = none := fun b hb o e => by
          have z := I8.pin (b, o) (List.mem_append_right _ (List.mem_append_right _ (mem_pinsAt hb e)))
          exact ⟨z.1, z.2.1⟩
        refine ⟨m', hm, i + 1, σ8, H8, I8.unpinned, T.keep _ _ _ st5 fun b hb o e => (fpin b hb o e).1, fun b hb => ?_, w8⟩
        obtain ⟨o, e, _⟩ := T.obj _ _ st5 b hb
        exact (fpin b hb o e).2
      cases ok with
      | false =>
        have q7' := q7
        rw [if_neg Bool.false_ne_true] at q7'
        exact back I7 q7'
      | true =>
        have q7' := q7
        rw [if_pos rfl] at q7'
        show wpAny _ _ _ _ _ _
        refine thn (hk C fp s₂ H₂ _ s7 σ6 H7 _ I7 q7') fun kv s8 ⟨y, H8, I8, r8, q8⟩ => ?_
        refine thn (hv C fp s₂ H₂ _ s8 σ6 H8 _ I8 q8) fun vv s9 ⟨z, H9, I9, r9, H10, dp, q9⟩ => ?_
        exact d_dictSet (X := blk X scope N' C fp s₂ H₂) (A := X.A) hu I9 dp r8 r9 fun s10 I10 => back I10 q9
  exact codeAny_compStart_dict (loop _ rfl) (T.self _ 0 _ _ _ st₁ (loop _ rfl))
variable {scope : Scope} {N' : List Str} {ix : List (Option Nat)} {tg iter kx vx : Expr} {ifs : List Expr} {pos : Pos} {wi : TI} {g : TG} {ti : TT} {tk tv : TE}
theorem pe_dcomp (new : HO) (hnew : new = .dK [] ∨ new = .dT []) (hu : X.A.units + 1 < cLine) (co : CompOk X.N X.env.scope scope N' ix) (hc : X.calm = true) (hit : PI X tg iter wi) (hg : ∀ C fp s₂ H₂, PG (blk X scope N' C fp s₂ H₂) tg g) (hi : ∀ C fp s₂ H₂, PIf (blk X scope N' C fp s₂ H₂) ifs ti)
    (hk : ∀ C fp s₂ H₂, PE (blk X scope N' C fp s₂ H₂) kx tk) (hv : ∀ C fp s₂ H₂, PE (blk X scope N' C fp s₂ H₂) vx tv) (hs : ∀ x, foldedSetIterable iter X.env x = pure x := by intro _; rfl) :
    PE X (.DictComp kx vx [⟨tg, iter, ifs, 0⟩] scope pos) (tDc new ix wi g ti tk tv) := by
  intro pins s σ H Q I h
  show wpAny _ _ (comprehension (.DictComp kx vx [⟨tg, iter, ifs, 0⟩] scope pos) scope X.env _ newDict false (eval iter X.env)) _ _ s
  refine wpAny_comprehension_free (use := none) rfl hs (comp_clos co I) co.kind co.names (thn (hit pins s σ H _ I h) fun xv s₁ h₁ => thn h₁ fun itv s₂ h₂ => ?_)
  obtain ⟨it, fp, tn, J, H₂, e, I₂, T, st, hf, hq⟩ := h₂
  subst e
  refine wpAny_newObj_type ?_
  have hn : H₂ s₂.heap.objs.size = none := I₂.hok.fresh (Nat.le_refl _)
  have hob : ObjOk X.prog X.w (upd H₂ s₂.heap.objs.size new) (s₂.heap.push { cls := .type "dict", dict := none, data := .dict #[] }) s₂.heap.objs.size new := by
    rcases hnew with z | z
    · rw [z]; exact dk_empty s₂.heap I₂.big
    · rw [z]; exact dt_empty s₂.heap I₂.big
  have I₃ : Inv X pins σ (upd H₂ s₂.heap.objs.size new) { s₂ with heap := s₂.heap.push { cls := .type "dict", dict := none, data := .dict #[] } } := I₂.laid (a := s₂.heap.objs.size) (o := new) (t' := s₂.toks) (fun _ _ q => Heap.get?_push_of_some _ q) (Nat.le_refl _) hob
  obtain ⟨W, w0, hW⟩ := hq s₂.heap.objs.size hn
  have hf' : ∀ b ∈ fp, FpOk X pins (upd H₂ s₂.heap.objs.size new) b := fun b hb => by
    obtain ⟨f0, f⟩ := hf b hb
    obtain ⟨o, e, _⟩ := T.obj _ _ st b hb
    exact ⟨by rw [upd_ne (Nat.ne_of_lt (Heap.lt_size e))]; exact f0, f⟩
  refine dblk_run co hc (Nat.lt_of_succ_lt hu) hg hi hk hv I₃ T (T.keep _ _ _ st fun b _ o e => Heap.get?_push_of_some _ e) hf' w0 hW
    (RR := fun C => compPost (model X.prog X.w) X.A X.xe none (EP X pins σ Q) (.ref s₂.heap.objs.size) C) fun C H' s' I' q G => ?_
  obtain ⟨m, hn⟩ := G.ns
  exact ⟨m, hn, fun h' hs' => ⟨.ref s₂.heap.objs.size, _, G.go I' hs', rfl, q⟩⟩
end
end L2
namespace L2
open PySem PySem.Spec PyProof.Rows
section
variable {X : Cx} {pins : List (Addr × Obj)} {σ : St} {H : Hp} {s : Shared} {h' : Heap}
end
end L2
namespace L2
open PySem PySem.Spec PyProof.Rows
theorem argBest_le (bt : Nat → Nat → Bool) : ∀ k, argBest bt k ≤ k
  | 0 => Nat.le_refl _
  | k + 1 => by
    have := argBest_le bt k
    unfold argBest
    split <;> omega
section
variable {prog : Program} {w : World} {A : Around} {s : Shared} {l it S : Addr} {vs : List Value} {bt : Nat → Nat → Bool} {R : Result → Shared → Prop}
end
section
variable {prog : Program} {w : World} {A : Around} {s : Shared} {l : Addr} {vs : List Value} {bt : Nat → Nat → Bool} {E : Value → Shared → Prop}
end
section
variable {X : Cx}
end
end L2
namespace L2
open PySem PySem.Spec PyProof.Rows
section
variable {X : Cx} {K : PySem.W.Frag}
theorem ix_tupK (hK : X.K = K) : IxR X (rIxT K) := by
  subst hK
  exact ix_tup
end
end L2
namespace PySem
section
variable {prog : Program} {w : World} {K : Type} [DecidableEq K] {knd : HeapKind prog w K} {A : Around} {E : Value → Shared → Prop} {s : Shared}
end
end PySem
namespace L2
open PySem PySem.Spec PyProof.Rows
section
variable {X : Cx} {o e f : Expr} {apos cpos : Pos} {td ty tx : TE}
end
end L2
namespace PySem
section
variable {prog : Program} {w : World} {A : Around} {E : Value → Shared → Prop} {s : Shared}
end
end PySem
namespace L2
open PySem PySem.Spec PyProof.Rows
end L2
namespace PySem
section
variable {prog : Program} {w : World} {A : Around} {E : Value → Shared → Prop} {s : Shared}
end
end PySem
namespace L2
open PySem PySem.Spec PyProof.Rows
section
variable {prog : Program} {w : World} {A : Around} {E : Value → Shared → Prop} {s : Shared} {a : Addr} {js : List Nat}
end
section
variable {prog : Program} {w : World} {A : Around} {E : Value → Shared → Prop} {s : Shared} {a : Addr} {js : List Nat}
end
section
variable {prog : Program} {w : World} {A : Around} {E : Value → Shared → Prop} {s : Shared} {a : Addr} {js : List Nat}
end
section
variable {X : Cx}
end
end L2
namespace L2
open PySem PySem.Spec PyProof.Rows
section
variable {K : Type} [DecidableEq K]
end
section
variable {prog : Program} {w : World} {A : Around} {E : Value → Shared → Prop} {s : Shared}
end
section
variable {X : Cx}
end
end L2
namespace L2
open PySem PySem.Spec PyProof.Rows
section
variable {X : Cx}
end
section
variable {X : Cx} {K : PySem.W.Frag}
end
end L2
namespace L2
open PySem PySem.Spec PyProof.Rows
section
variable {X : Cx}
end
end L2
namespace L2
open PySem PySem.Spec PyProof.Rows
section
variable {X : Cx}
theorem call_isSeq : CallR X (.builtin "isinstance") (fun xs H Q => ∃ x q, xs = [.ref x, .ref q] ∧ H q = some (.tup [.ty "list", .ty "tuple"]) ∧ ((∃ ys, SqL X.K H x ys) ∨ ∃ ys, SqT X.K H x ys) ∧ Q (.bl true) H) := by
  intro pins s σ H xs us Q I r h
  obtain ⟨x, q, rfl, hq, hx, k⟩ := h
  obtain ⟨u, w, rfl, r1, r2⟩ := vals2 r
  cases r1
  cases r2
  obtain ⟨ts, rt, ht, _⟩ := I.tuple (SqT.of hq)
  obtain ⟨a, b, rfl, ra, rb⟩ := vals2 rt
  obtain rfl : a = Value.type "list" := ra
  obtain rfl : b = Value.type "tuple" := rb
  obtain ⟨⟨c, dd, dt, sl⟩, ho, hc, n, hd⟩ := ht
  simp only at hc hd
  subst hc hd
  have fin : ∀ tk, EP X pins σ Q (.bool true) { s with toks := tk } := fun tk => ⟨.bl true, H, I.tok tk, rfl, k⟩
  rcases hx with ⟨ys, hy⟩ | ⟨ys, hy⟩
  · obtain ⟨its, _, pl, _⟩ := I.list hy
    obtain ⟨o, ho2, hc2, _⟩ := pl.isList
    exact PySem.W.kia_tup (its := [.type "list", .type "tuple"]) PySem.W.kitx_list I.kIn ⟨o, ho2, hc2⟩ ho rfl (fun z => nomatch z) fin
  · obtain ⟨its, _, ⟨o, ho2, hc2, _⟩, _⟩ := I.tuple hy
    exact PySem.W.kia_tup (its := [.type "list", .type "tuple"]) PySem.W.kitx_tuple I.kIn ⟨o, ho2, hc2⟩ ho rfl (fun z => nomatch z) fin
def iOr (a b : TI) : TI := fun σ H R => a σ H R ∨ b σ H R
theorem pi_or {tg l : Expr} {a b : TI} (h1 : PI X tg l a) (h2 : PI X tg l b) : PI X tg l (iOr a b) := by
  intro pins s σ H R I h
  rcases h with h | h
  · exact h1 pins s σ H R I h
  · exact h2 pins s σ H R I h
theorem pi_seq {tg l : Expr} {tl : TE} (hl : PE X l tl) : PI X tg l (iOr (iList X.K tl) (iTup X.K tl)) := pi_or (pi_list hl) (pi_tup hl)
end
end L2
namespace L2
open PySem PySem.Spec PyProof.Rows
section
variable {X : Cx} {CX : CXT} {k : Nat} {C f : Addr} {fd : FuncData} {ps ks : List Str} {sp : Sp} {E : XK} {g : List Value → List Value → List Value} {gV : List V → List V → List V} {x : Str} {p pos : Pos} {e : Expr} {es : List Expr} {kws : List Keyword} {t tk : TA}
theorem run_makeK {pins : List (Addr × Obj)} {σ : St} {H : Hp} {s : Shared} {Q : VK} {us ws : List Value} {vs zs : List V} (M : Mk X.K C f) (F : FnOk X.prog X.w X.K X.mg X.base CX k f fd ps sp) (hr : Room (k + 1) X.A) (hb : KBinds X.K fd ps ks g gV)
    (hx : Passes CX X E) (I : Inv X pins σ H s) (r : Vals vs us) (rz : Vals zs ws)
    (h : ∀ x dx, H x = none → H dx = none → dx ≠ x → sp (gV (.ref x :: vs) zs) (upd (upd H dx (.own x)) x (.ins C dx [])) (fun v H2 => v = .non ∧ Q (.ref x) H2) E) :
    wpAny (model X.prog X.w) X.A (call (.ref C) us (ks.zip ws)) (EP X pins σ Q) X.xe s := by
  have hq := h (s.heap.objs.size + 1) s.heap.objs.size (I.hok.fresh (Nat.le_succ _)) (I.hok.fresh (Nat.le_refl _)) (Nat.ne_of_lt (Nat.lt_succ_self _))
  have I2 := Inv.made (C := C) I
  have r2 := hb.rel (Paired.cons (show RelV (V.ref (s.heap.objs.size + 1)) (Value.ref (s.heap.objs.size + 1)) from rfl) r) rz
  have hl : (g (Value.ref (s.heap.objs.size + 1) :: us) ws).length = ps.length := by
    rw [← Paired.length r2]
    exact F.len _ _ _ _ hq
  refine wpAny_call (make_map (f := f) I.kIn M.makes M.init (beq_iff_eq.mp M.fn) (codeAny_mono (F.run _ X.stack _ _ ⟨Value.ref (s.heap.objs.size + 1) :: us, ks.zip ws⟩ _ _ _ E (hr.make C us (ks.zip ws))
    (I2.env0.make C us (ks.zip ws)) (hb.to _ _ _ I2.kIn hl) r2 hq) fun r s' hq' => ?_))
  cases r with
  | error e => exact hx pins σ _ _ e s' I2 hq'
  | ok fl =>
    cases fl with
    | ret u =>
      obtain ⟨v, H', I3, rv, ev, q3⟩ := I2.after hq'
      subst ev
      exact ⟨rv, ⟨V.ref (s.heap.objs.size + 1), H', I3, rfl, q3⟩⟩
    | next => exact False.elim hq'
    | brk => exact False.elim hq'
    | cont => exact False.elim hq'
def tMakeK (C : Addr) (sp : Sp) (gV : List V → List V → List V) (E : XK) (t tk : TA) : TE := fun σ H Q => t σ H fun vs H1 => tk σ H1 fun zs H2 => ∀ x dx, H2 x = none → H2 dx = none → dx ≠ x → sp (gV (.ref x :: vs) zs) (upd (upd H2 dx (.own x)) x (.ins C dx [])) (fun v H3 => v = .non ∧ Q (.ref x) H3) E
theorem pe_makeK (M : Mk X.K C f) (F : FnOk X.prog X.w X.K X.mg X.base CX k f fd ps sp) (hr : Room (k + 1) X.A) (hg : Gl X x) (hm : X.mg x = some (.ref C)) (hb : KBinds X.K fd ps ks g gV) (hx : Passes CX X E)
    (ha : PA X (e :: es) t) (hkw : PK X kws tk) (hall : (backToKw pos (keywordEach kws X.env)).all (·.1.isSome) = true := by rfl) (hks : (backToKw pos (keywordEach kws X.env)).filterMap (·.1) = ks := by rfl)
    (hdb : (x == ("__debug__" : Str)) = false := by decide) (he : starEach (e :: es) X.env = (false, eval e X.env) :: starEach es X.env := by rfl)
    (hpl : ((backTo pos (starEach (e :: es) X.env)).any (·.1) || (backToKw pos (keywordEach kws X.env)).any (·.1.isNone)) = false := by rfl) :
    PE X (.Call (.Name x p) (e :: es) kws pos) (tMakeK C sp gV E t tk) := by
  intro pins s σ H Q I h
  refine wpAny_Call_Name_kw (ld_glob I hg hm ?_ hdb)
  refine PySem.W.callWith_KW (h₀ := X.base) I.ok.mod.kin M.kp hall (thn (ha pos pins s σ H _ I h) fun us s1 ⟨vs, H1, I1, r, q⟩ => ?_) hpl he
  refine thn (hkw pos pins s1 σ H1 _ I1 q) fun ws s2 ⟨zs, H2, I2, rz, q2⟩ => ⟨I2.kIn, ?_⟩
  rw [hks]
  exact run_makeK M F hr hb hx I2 r rz q2
end
section
variable {X : Cx}
end
section
variable {X : Cx} {K : PySem.W.Frag}
theorem op_notIn_seqK (hK : X.K = K) : OpR X (compareOp .NotIn) (rIn K true) := by
  subst hK
  exact op_notIn_seq
end
end L2
namespace L2
open PySem PySem.Spec PyProof.Rows
def DK {α : Type} : Sem α → Prop
  | .pure _ => True
  | .raise _ => True
  | .unsupported _ => True
  | .finish _ => True
  | .rule _ k => DK (k ())
  | .at _ k => DK (k ())
  | .load _ _ k => ∀ o, DK (k o)
  | .update _ _ f k => (∀ o : Obj, (f o).dict = o.dict ∧ (o.isFreed = false → (f o).isFreed = false)) ∧ DK (k ())
  | .loadIfAlive _ k => ∀ o, DK (k o)
  | .point _ k => DK (k ())
  | .register _ _ => True
  | .alloc _ k => ∀ a, DK (k a)
  | .fresh k => ∀ t, DK (k t)
  | .ask k => ∀ x, DK (k x)
  | .handled _ k => ∀ x, DK (k x)
  | .stack k => ∀ x, DK (k x)
  | _ => False
theorem dk_bind' {α β : Type} {f : α → Sem β} (hf : ∀ a, DK (f a)) (m : Sem α) (h : DK m) : DK (m.bind f) := by
  induction m with
  | pure a => exact hf a
  | raise _ => exact True.intro
  | unsupported _ => exact True.intro
  | finish _ => exact True.intro
  | rule _ k ih => exact ih () h
  | «at» _ k ih => exact ih () h
  | load _ _ k ih => exact fun o => ih o (h o)
  | update _ _ _ k ih => exact ⟨h.1, ih () h.2⟩
  | loadIfAlive _ k ih => exact fun o => ih o (h o)
  | point _ k ih => exact ih () h
  | register _ _ _ => exact True.intro
  | alloc _ k ih => exact fun a => ih a (h a)
  | fresh k ih => exact fun a => ih a (h a)
  | ask k ih => exact fun a => ih a (h a)
  | handled _ k ih => exact fun a => ih a (h a)
  | stack k ih => exact fun a => ih a (h a)
  | choose _ _ _ _ => exact False.elim h
  | os _ _ _ _ => exact False.elim h
  | call _ _ _ _ _ _ => exact False.elim h
  | newGen _ _ _ => exact False.elim h
  | genState _ _ _ => exact False.elim h
  | resume _ _ _ _ _ => exact False.elim h
  | yield _ _ _ _ _ => exact False.elim h
  | fork _ _ _ => exact False.elim h
  | thread _ _ => exact False.elim h
  | await _ _ _ _ _ _ => exact False.elim h
theorem dk_bind {α β : Type} {m : Sem α} {f : α → Sem β} (hm : DK m) (hf : ∀ a, DK (f a)) : DK (m >>= f) := dk_bind' hf m hm
theorem dk_load {a : Addr} : DK (load a) := fun _ => True.intro
theorem dk_alloc {o : Obj} : DK (alloc o) := fun _ => True.intro
theorem dk_stack : DK stack := fun _ => True.intro
theorem dk_update {a : Addr} {f : Obj → Obj} (h : ∀ o : Obj, (f o).dict = o.dict ∧ (o.isFreed = false → (f o).isFreed = false)) : DK (update a f) := ⟨h, True.intro⟩
def KD (h h' : Heap) : Prop := ∀ b o, h.get? b = some o → ∃ o', h'.get? b = some o' ∧ o'.dict = o.dict
theorem KD.refl (h : Heap) : KD h h := fun _ o e => ⟨o, e, rfl⟩
theorem KD.trans {a b c : Heap} (x : KD a b) (y : KD b c) : KD a c := fun i o e => by
  obtain ⟨o1, e1, d1⟩ := x i o e
  obtain ⟨o2, e2, d2⟩ := y i o1 e1
  exact ⟨o2, e2, d2.trans d1⟩
theorem KD.push (h : Heap) (o : Obj) : KD h (h.push o) := fun _ o' e => ⟨o', Heap.get?_push_of_some o e, rfl⟩
theorem KD.update {h : Heap} {a : Addr} {f : Obj → Obj} (hf : ∀ o : Obj, (f o).dict = o.dict ∧ (o.isFreed = false → (f o).isFreed = false)) : KD h (h.update a f) := fun b o e => by
  by_cases z : a = b
  · subst z
    exact ⟨f o, Heap.get?_update_self f e ((hf o).2 (Heap.get?_some_iff.mp e).2), (hf o).1⟩
  · exact ⟨o, by rw [Heap.get?_update_other h f z]; exact e, rfl⟩
theorem wp_dk {α : Type} {M : Model} {Γ : PySem.Ctx} {Q : α → Pos → Shared → Prop} {E : Value → Pos → Shared → Prop} (t : Sem α) (p : Pos) (s : Shared) (d : DK t) (h : Sem.wp M Γ t Q E p s) :
    Sem.wp M Γ t (fun a p' s' => Q a p' s' ∧ KD s.heap s'.heap) (fun e p' s' => E e p' s' ∧ KD s.heap s'.heap) p s := by
  induction t generalizing p s with
  | pure a => rw [Sem.wp] at h ⊢; exact ⟨h, KD.refl _⟩
  | raise _ => rw [Sem.wp] at h ⊢; exact ⟨h, KD.refl _⟩
  | unsupported _ => rw [Sem.wp] at h; exact h.elim
  | finish _ => rw [Sem.wp] at h; exact h.elim
  | rule _ k ih => rw [Sem.wp] at h ⊢; exact ih () p s d h
  | «at» p' k ih => rw [Sem.wp] at h ⊢; exact ih () p' s d h
  | load a x k ih =>
    rw [Sem.wp] at h ⊢
    obtain ⟨o, e, h⟩ := h
    exact ⟨o, e, ih o p s (d o) h⟩
  | update a x f k ih =>
    rw [Sem.wp] at h ⊢
    obtain ⟨e, h⟩ := h
    exact ⟨e, Sem.wp_mono M Γ (k ()) (fun _ _ s' q => ⟨q.1, (KD.update d.1).trans q.2⟩) (fun _ _ s' q => ⟨q.1, (KD.update d.1).trans q.2⟩) p _ (ih () p _ d.2 h)⟩
  | loadIfAlive a k ih => rw [Sem.wp] at h ⊢; exact ih _ p s (d _) h
  | point _ k ih => rw [Sem.wp] at h ⊢; exact ih () p s d h
  | register _ _ _ => rw [Sem.wp] at h; exact h.elim
  | alloc o k ih =>
    rw [Sem.wp] at h ⊢
    exact Sem.wp_mono M Γ (k s.heap.objs.size) (fun _ _ s' q => ⟨q.1, (KD.push _ o).trans q.2⟩) (fun _ _ s' q => ⟨q.1, (KD.push _ o).trans q.2⟩) p _ (ih _ p _ (d _) h)
  | fresh k ih => rw [Sem.wp] at h ⊢; exact ih _ p _ (d _) h
  | ask k ih => rw [Sem.wp] at h ⊢; exact ih _ p s (d _) h
  | handled own k ih => rw [Sem.wp] at h ⊢; exact ih _ p s (d _) h
  | stack k ih => rw [Sem.wp] at h ⊢; exact ih _ p s (d _) h
  | choose _ _ _ _ => exact False.elim d
  | os _ _ _ _ => exact False.elim d
  | call _ _ _ _ _ _ => exact False.elim d
  | newGen _ _ _ => exact False.elim d
  | genState _ _ _ => exact False.elim d
  | resume _ _ _ _ _ => exact False.elim d
  | yield _ _ _ _ _ => exact False.elim d
  | fork _ _ _ => exact False.elim d
  | thread _ _ => exact False.elim d
  | await _ _ _ _ _ _ => exact False.elim d
theorem wpAny_dk {α : Type} {M : Model} {A : Around} {t : Sem α} {Q : α → Shared → Prop} {E : Value → Shared → Prop} {s : Shared} (d : DK t) (h : wpAny M A t Q E s) : wpAny M A t (fun a s' => Q a s' ∧ KD s.heap s'.heap) (fun e s' => E e s' ∧ KD s.heap s'.heap) s :=
  fun Γ p hΓ => wp_dk t p s d (h Γ p hΓ)
theorem dk_fieldsOf {v : Value} : DK (fieldsOf v) := by
  unfold fieldsOf
  split
  · refine dk_bind dk_load fun o => ?_
    split <;> exact True.intro
  · exact True.intro
theorem dk_field {v : Value} {i : Nat} : DK (field v i) := by
  unfold field
  refine dk_bind dk_fieldsOf fun vs => ?_
  split <;> exact True.intro
theorem dk_mapFields (f : Array Value → Array Value) (o : Obj) : (Obj.mapFields f o).dict = o.dict ∧ (o.isFreed = false → (Obj.mapFields f o).isFreed = false) := by
  obtain ⟨c, d, dt, sl⟩ := o
  cases dt <;> exact ⟨rfl, fun h => h⟩
theorem dk_setField {v x : Value} {i : Nat} : DK (setField v i x) := by
  unfold setField
  split
  · unfold updateField
    refine dk_bind dk_load fun o => ?_
    split
    · split
      · exact dk_update (dk_mapFields _)
      · exact True.intro
    · exact True.intro
  · exact True.intro
theorem dk_setFlight {e : Value} {f : Option Addr} : DK (setFlight e f) := by
  unfold setFlight
  refine dk_bind dk_field fun tb => ?_
  split
  · exact dk_setField
  · exact True.intro
theorem dk_readyFrames : ∀ l : List Env, DK (readyFrames l)
  | [] => True.intro
  | env :: outer => by
    unfold readyFrames
    split
    · refine dk_bind dk_load fun o => ?_
      split
      · exact True.intro
      · refine dk_bind ?_ fun im => dk_bind ?_ fun back => dk_bind (dk_update fun o => ⟨rfl, fun h => ?_⟩) fun _ => dk_readyFrames outer
        · unfold behindIsImport
          split
          · exact True.intro
          · split
            · exact True.intro
            · exact dk_bind dk_field fun _ => True.intro
        · unfold keptBack
          split
          · split
            · exact True.intro
            · refine dk_bind ?_ fun _ => True.intro
              unfold underTheClaimsCaller
              exact dk_bind dk_stack fun _ => True.intro
          · exact True.intro
        · obtain ⟨c, d, dt, sl⟩ := o
          cases dt <;> exact h
    · exact True.intro
theorem dk_frameOf {env : Env} : DK (PySem.frameOf env) := by
  unfold PySem.frameOf
  refine dk_bind (dk_bind dk_stack fun _ => True.intro) fun es => dk_bind ?_ fun r => ?_
  · cases es.dropWhile (·.frame != env.frame) with
    | nil => exact True.intro
    | cons e r =>
      unfold frameObject
      exact dk_bind (dk_readyFrames _) fun _ => True.intro
  · split <;> exact True.intro
theorem dk_newFields {ty : String} {vs : List Value} : DK (newFields ty vs) := by
  unfold newFields newObj
  dsimp only
  have rest : DK (newObjAsIs (Value.type ty) (Data.fields vs.toArray)) := by
    unfold newObjAsIs
    exact dk_bind dk_alloc fun _ => True.intro
  split
  · exact dk_bind True.intro fun _ => rest
  · exact rest
theorem dk_entryPlace {f : Addr} {b : Bool} : DK (entryPlaceOf f b) := by
  unfold entryPlaceOf
  refine dk_bind dk_stack fun acts => ?_
  split <;> exact True.intro
theorem dk_noteFrame {e : Value} {env : Env} : DK (noteFrame e env) := by
  unfold noteFrame
  split
  · have rest : ∀ {head : Value} {f : Addr}, DK (do setField e 1 (← EntryCells.newEntry head (← PySem.frameOf env) .none (rawInt f) .none (← entryPlaceOf f (head != .none)))) := fun {head f} =>
      dk_bind dk_frameOf fun a => dk_bind dk_entryPlace fun pl => dk_bind dk_newFields fun b => dk_setField
    refine dk_bind dk_field fun head => ?_
    split
    · refine dk_bind dk_field fun x => ?_
      split
      · exact True.intro
      · exact dk_bind dk_setField fun _ => rest
    · exact rest
  · exact True.intro
theorem dk_leaving {env : Env} {e : Value} : DK (leaving env e) := dk_bind dk_noteFrame fun _ => dk_setFlight
end L2
namespace PySem
section
variable {prog : Program} {w : World} {A : Around} {E : Value → Shared → Prop} {h : Heap} {g : Array GenState} {d : Drawn} {t : Nat} {os : OsState}
variable {nm q : Str} {C N : Addr} {bs bm bmB : List Value} {hdct : Bool} {sn : List Str} {sub : List Value} {ab : Bool} {col : Option Bool} {dd : Option Addr} {k0 k1 k2 k3 k5 : Option Value} {B newId initId : String}
theorem type_call_init (F : ExcBaseFacts B newId initId bmB) (T : OwnTail h bmB bm) {rest : List Value} {fI : Addr} {oI : Obj} {Q : Fin → Shared → Prop}
    (hC : h.get? C = some (excClassObj nm q C N bs bm hdct sn sub ab col dd k0 k1 k2 k3 k5 newId)) (L : PySem.W.Looks (model prog w) h (typeLookup (.ref C) "__init__") (some (.ref fI))) (hfI : h.get? fI = some oI) (hfc : oI.cls = .type "function") (hrest : rest.length ≤ sizeLine)
    (hq : ∀ h' e, Heap.MadeExcOf h h' e (.ref C) rest → wpAny (model prog w) A (call (.ref fI) (.ref e :: rest)) (fun r s' => r = .none ∧ Q (.done (.ret (.ref e))) s') E ⟨h', g, d, t, os⟩) :
    wpAny (model prog w) A (Builtin.«type.__call__» ⟨.ref C :: rest, []⟩) Q E ⟨h, g, d, t, os⟩ := by
  repeat (first | with_reducible refine wpAny_loadPart_at hC ?_ | with_reducible refine wpAny_madeBy_exc hC ?_ | wp_step)
  refine codeAny_call_builtin_code (Code.quiet_builtin _ F.quiet) (wpAny_check_new_subT F T hC (codeAny_exc_new_subT F T hC ?_ hrest))
  show wpAny _ _ _ _ _ _
  have hk : ∀ b o, h.get? b = some o → ((h.push { cls := .type "tuple", data := .seq rest.toArray }).push { cls := .ref C, data := .fields #[.ref h.objs.size, .none, .none, .none, .bool false, .none] }).get? b = some o :=
    fun b o e => Heap.get?_push_of_some _ (Heap.get?_push_of_some _ e)
  have hget : ((h.push { cls := .type "tuple", data := .seq rest.toArray }).push { cls := .ref C, data := .fields #[.ref h.objs.size, .none, .none, .none, .bool false, .none] }).get? (h.objs.size + 1) = some
      { cls := .ref C, data := .fields #[.ref h.objs.size, .none, .none, .none, .bool false, .none] } := by heap_get
  have hm : Heap.MadeExcOf h ((h.push { cls := .type "tuple", data := .seq rest.toArray }).push { cls := .ref C, data := .fields #[.ref h.objs.size, .none, .none, .none, .bool false, .none] }) (h.objs.size + 1) (.ref C) rest :=
    ⟨hk, Heap.get?_none_of_le (Nat.le_succ _), h.objs.size, hget, Heap.get?_none_of_le (Nat.le_refl _), Heap.get?_push_of_some _ (Heap.get?_push_at rfl rfl)⟩
  have hq' := hq _ _ hm
  have hC1 := hk _ _ hC
  have hfI1 := hk _ _ hfI
  have hcC : (Value.ref C :: bm).contains (.ref C) = true := by simp
  unfold isInstance
  repeat (first | with_reducible refine wpAny_loadPart_at hget ?_ | (with_reducible refine wpAny_isSubtype_exc hC1 ?_; rw [hcC]) | wp_step)
  show wpAny _ _ (typeLookup (.ref C) _) _ _ _
  refine L _ _ _ _ hk (wpAny_holding (wpAny_bind ?_))
  unfold bindSpecial
  refine wpAny_bind (wpAny_typeOf (T := "function") ⟨_, hfI1, hfc⟩ ?_)
  rw [if_pos (by decide)]
  refine wpAny_pure (wpAny_bind (wpAny_mono hq' (fun r s' hr => ?_) fun _ _ x => x))
  obtain ⟨rfl, hQ⟩ := hr
  wp_walk
  exact hQ
theorem made_init (F : ExcBaseFacts B newId initId bmB) (T : OwnTail h bmB bm) {rest : List Value} {fI : Addr} {oI : Obj} {Q : Value → Shared → Prop}
    (hC : h.get? C = some (excClassObj nm q C N bs bm hdct sn sub ab col dd k0 k1 k2 k3 k5 newId)) (L : PySem.W.Looks (model prog w) h (typeLookup (.ref C) "__init__") (some (.ref fI))) (hfI : h.get? fI = some oI) (hfc : oI.cls = .type "function") (hrest : rest.length ≤ sizeLine)
    (hq : ∀ h' e, Heap.MadeExcOf h h' e (.ref C) rest →
      wpAny (model prog w) (A.under (.builtin "type.__call__" ⟨.ref C :: rest, []⟩)) (call (.ref fI) (.ref e :: rest)) (fun r s' => r = .none ∧ Q (.ref e) s') E ⟨h', g, d, t, os⟩) :
    wpAny (model prog w) A (call (.ref C) rest) Q E ⟨h, g, d, t, os⟩ := by
  have f1 := tc_lookup
  have f2 := tc_bind (.ref C)
  have hT : (⟨h, g, d, t, os⟩ : Shared).TypeIs (.ref C) "type" := ⟨_, hC, rfl⟩
  refine wpAny_call (codeAny_of_tree ?_)
  show wpAny _ _ (callAny (.ref C) _) _ _ _
  repeat (any_goals (first | assumption | with_reducible refine wpAny_loadPart_at hC ?_ | wp_step))
  refine ⟨rfl, ?_⟩
  exact codeAny_call_builtin_at (Code.quiet_builtin _ (by decide +kernel)) entry_typeCall (wpAny_check_type_call_sub hC (type_call_init F T hC L hfI hfc hrest fun h' e hm => hq h' e hm))
theorem raise_made {s : Shared} {env : Env} {x : Sem Value} {Q : Flow → Shared → Prop} (hbase : bm.contains (.type "BaseException") = true) (hh : A.handled = none)
    (hx : wpAny (model prog w) A x (fun v s1 => ∃ e oe t, v = .ref e ∧ s1.heap.get? C = some (excClassObj nm q C N bs bm hdct sn sub ab col dd k0 k1 k2 k3 k5 newId) ∧ s1.heap.get? e = some oe ∧ oe.cls = .ref C ∧ oe.data = .fields #[.ref t, .none, .none, .none, .bool false, .none] ∧ E (.ref e) s1) E s) :
    wpAny (model prog w) A (raiseStmt env (some x) none) Q E s := by
  have hcB : (Value.ref C :: bm).contains (.type "BaseException") = true := by rw [List.contains_cons, hbase, Bool.or_true]
  unfold raiseStmt
  refine wpAny_bind (wpAny_mono hx (fun v s1 q1 => ?_) fun _ _ z => z)
  obtain ⟨e, oe, t, rfl, hC, he, hc, hd, hE⟩ := q1
  obtain ⟨hp, g, dr, tk, os⟩ := s1
  obtain ⟨c0, di, da, sl⟩ := oe
  dsimp only at hc hd
  subst hc hd
  repeat (first | with_reducible refine wpAny_loadPart_at he ?_ | with_reducible refine wpAny_loadPart_at hC ?_ | (with_reducible refine wpAny_isSubtype_exc hC ?_; rw [hcB]) | wp_step)
  exact wpAny_raiseNew_none hh hE
end
end PySem
namespace PySem
open Builtin Builtin.ObjectAttr
abbrev vMro : List Value := [.type "ValueError", .type "Exception", .type "BaseException", .type "object"]
section
variable {prog : Program} {w : World} {A : Around} {E : Value → Shared → Prop} {h : Heap} {g : Array GenState} {d : Drawn} {t : Nat} {os : OsState}
variable {nm q : Str} {C N x : Addr} {bs bm : List Value} {hdct : Bool} {sn : List Str} {sub : List Value} {ab : Bool} {col : Option Bool} {dd : Option Addr} {k0 k1 k2 k3 k5 : Option Value} {newId : String} {name : Str} {v : Value} {o : Obj}
theorem lk_go {M : Model} {α : Type} {p : Sem α} {r : α} {Q : α → Shared → Prop} (L : PySem.W.Looks M h p r) (hq : Q r ⟨h, g, d, t, os⟩) : wpAny M A p Q E ⟨h, g, d, t, os⟩ := L _ _ _ _ (fun _ _ e => e) hq
theorem refuse_tail {self : Value} (T : OwnTail h vMro bm) : refuseLoop self "__setattr__" bm = pure () := by
  induction T with
  | base => exact F.store_ValueError.passes self
  | own _ _ _ _ ih => rw [refuseLoop_ref]; exact ih
theorem set_first_entry {tk : Tok} {Q : Fin → Shared → Prop} (T : OwnTail h vMro bm) (hC : h.get? C = some (excClassObj nm q C N bs bm true sn sub ab col dd k0 k1 k2 k3 k5 newId)) (Ln : PySem.W.Looks (model prog w) h (typeLookup (.ref C) name) none)
    (hx : h.get? x = some o) (hc : o.cls = .ref C) (hnc : ∀ c, o.data ≠ .cls c) (hdn : o.dict = none)
    (hq : ∀ h' tk' dx, h.get? dx = none → dx ≠ x → h'.get? x = some { o with dict := some dx } → h'.Ns1 dx (fun y => if y = name then some v else none) → (∀ b ob, b ≠ x → h.get? b = some ob → h'.get? b = some ob) → Q (.done (.ret .none)) ⟨h', g, d, tk', os⟩) :
    wpAny (model prog w) A (Builtin.«object.__setattr__» ⟨[.ref x, .str name tk, v], []⟩) Q E ⟨h, g, d, t, os⟩ := by
  have hpass := refuse_tail (self := .ref x) T
  unfold Builtin.«object.__setattr__»
  repeat (first | rw [refuse_eq] | (rw [refuseLoop_ref, hpass]) | (with_reducible refine wpAny_loadPart_at hx ?_; rw [hc]) | with_reducible refine wpAny_mroOf_exc hC ?_ | with_reducible refine lk_go Ln ?_ | wp_step)
  rw [hdn, if_neg (by simp [typeHasDict])]
  split
  · rename_i hcd
    cases hcd
  split
  · rename_i c hcd
    exact absurd hcd (hnc c)
  have hx1 : (h.push { cls := .type "dict", data := .dict #[] }).get? x = some o := Heap.get?_push_of_some _ hx
  have hxs : x ≠ h.objs.size := Nat.ne_of_lt (Heap.lt_size hx)
  refine wpAny_bind (wpAny_alloc' (wpAny_bind (wpAny_update' hx1 (wpAny_pure ?_))))
  have hgd : ((h.push { cls := .type "dict", data := .dict #[] }).update x fun o => { cls := o.cls, dict := some h.objs.size, data := o.data, slots := o.slots }).get? h.objs.size = some { cls := .type "dict", data := .dict #[] } :=
    (Heap.get?_update_ne _ _ _ _ hxs.symm).trans (Heap.get?_push_at rfl rfl)
  show wpAny _ _ (storeInDict h.objs.size (.str name tk) name v) _ _ _
  unfold storeInDict newKeyGuard
  refine wpAny_bind (wpAny_pure (wpAny_bind (wpAny_nsSet1 (Heap.Ns1.of_empty ⟨_, #[], _, hgd, rfl, fun e he => absurd he (by simp), fun _ => rfl⟩) fun h' hn' hs => ?_)))
  obtain ⟨oD, esD, epD, hoD, hdD, hcD⟩ := hn'.count (Within.cons name v Within.nil)
  refine wpAny_bind (wpAny_lookBehind hoD (by rw [hdD]; exact pastItsLine_dict (Nat.le_trans hcD (by rw [List.length_cons, List.length_nil, sizeLine_eq]; omega))) ?_)
  wp_walk
  refine hq h' _ h.objs.size (Heap.get?_none_of_le (Nat.le_refl _)) hxs.symm ?_ hn' fun b ob hbx hb => (hs.2 b (Nat.ne_of_lt (Heap.lt_size hb))).trans ((Heap.get?_update_ne _ _ _ _ hbx).trans (Heap.get?_push_of_some _ hb))
  refine (hs.2 x hxs).trans (Heap.get?_update_self _ hx1 ?_)
  have hfr := (Heap.get?_some_iff.mp hx).2
  obtain ⟨oc, od, odt, osl⟩ := o
  cases odt <;> first | rfl | exact hfr
theorem check_set {M : Model} {nameV : Value} {Q : Unit → Shared → Prop} (T : OwnTail h vMro bm) (hC : h.get? C = some (excClassObj nm q C N bs bm hdct sn sub ab col dd k0 k1 k2 k3 k5 newId)) (hx : h.get? x = some o) (hc : o.cls = .ref C) (hq : Q () ⟨h, g, d, t, os⟩) :
    wpAny M A (checkBuiltinCall "object.__setattr__" ⟨[.ref x, nameV, v], []⟩) Q E ⟨h, g, d, t, os⟩ := by
  have hcB : (Value.ref C :: bm).contains (.type "object") = true := by rw [List.contains_cons, T.hasType F.store_ValueError.hasOwner, Bool.or_true]
  have ha := F.store_ValueError.args (.ref x) nameV v
  simp only [checkBuiltinCall, F.store_ValueError.kind, F.store_ValueError.split]
  refine wpAny_bind ?_
  unfold isInstance
  repeat (first | (with_reducible refine wpAny_loadPart_at hx ?_; rw [hc]) | (with_reducible refine wpAny_isSubtype_exc hC ?_; rw [hcB]) | wp_step)
  exact hq
theorem set_first {Q : Unit → Shared → Prop} (T : OwnTail h vMro bm) (hC : h.get? C = some (excClassObj nm q C N bs bm true sn sub ab col dd k0 k1 k2 k3 k5 newId)) (Ls : PySem.W.Looks (model prog w) h (typeLookup (.ref C) "__setattr__") (some (.builtin "object.__setattr__"))) (Ln : PySem.W.Looks (model prog w) h (typeLookup (.ref C) name) none)
    (hx : h.get? x = some o) (hc : o.cls = .ref C) (hnc : ∀ c, o.data ≠ .cls c) (hdn : o.dict = none)
    (hq : ∀ h' tk' dx, h.get? dx = none → dx ≠ x → h'.get? x = some { o with dict := some dx } → h'.Ns1 dx (fun y => if y = name then some v else none) → (∀ b ob, b ≠ x → h.get? b = some ob → h'.get? b = some ob) → Q () ⟨h', g, d, tk', os⟩) :
    wpAny (model prog w) A (setAttr (.ref x) name v) Q E ⟨h, g, d, t, os⟩ := by
  have f3 := F.store_ValueError.slot.bind (.ref x)
  unfold setAttr callSpecial? specialOf
  repeat (any_goals (first | assumption | (with_reducible refine wpAny_loadPart_at hx ?_; rw [hc]) | with_reducible refine lk_go Ls ?_ | wp_step))
  refine codeAny_call_builtin F.store_ValueError.slot.plain F.store_ValueError.entry (check_set T hC hx hc (set_first_entry T hC Ln hx hc hnc hdn fun h' tk' dx a1 a2 a3 a4 a5 => ?_))
  repeat (any_goals (first | assumption | wp_step))
  exact hq h' tk' dx a1 a2 a3 a4 a5
theorem check_get {M : Model} {nameV : Value} {Q : Unit → Shared → Prop} (T : OwnTail h vMro bm) (hC : h.get? C = some (excClassObj nm q C N bs bm hdct sn sub ab col dd k0 k1 k2 k3 k5 newId)) (hx : h.get? x = some o) (hc : o.cls = .ref C) (hq : Q () ⟨h, g, d, t, os⟩) :
    wpAny M A (checkBuiltinCall "BaseException.__getattribute__" ⟨[.ref x, nameV], []⟩) Q E ⟨h, g, d, t, os⟩ := by
  have hk : builtinKind "BaseException.__getattribute__" = some .slot := by decide +kernel
  have hsplit : splitId "BaseException.__getattribute__" = some ("BaseException", "__getattribute__") := by decide +kernel
  have hcB : (Value.ref C :: bm).contains (.type "BaseException") = true := by rw [List.contains_cons, T.hasType F.attrBase_ValueError.hasBase]; rfl
  have ha := F.args_bexc_ga (.ref x) nameV
  simp only [checkBuiltinCall, hk, hsplit]
  refine wpAny_bind ?_
  unfold isInstance
  repeat (first | (with_reducible refine wpAny_loadPart_at hx ?_; rw [hc]) | (with_reducible refine wpAny_isSubtype_exc hC ?_; rw [hcB]) | wp_step)
  exact hq
theorem get_entry {tk : Tok} {dx : Addr} {mA : Str → Option Value} {Q : Fin → Shared → Prop} (hC : h.get? C = some (excClassObj nm q C N bs bm true sn sub ab col dd k0 k1 k2 k3 k5 newId)) (Ln : PySem.W.Looks (model prog w) h (typeLookup (.ref C) name) none)
    (hx : h.get? x = some o) (hc : o.cls = .ref C) (hnc : ∀ c, o.data ≠ .cls c) (hdx : o.dict = some dx) (hns : h.Ns1 dx mA) (hv : mA name = some v) (hq : Q (.done (.ret v)) ⟨h, g, d, t, os⟩) :
    wpAny (model prog w) A (Builtin.«object.__getattribute__» ⟨[.ref x, .str name tk], []⟩) Q E ⟨h, g, d, t, os⟩ := by
  unfold Builtin.«object.__getattribute__»
  repeat (first | (with_reducible refine wpAny_loadPart_at hx ?_; rw [hc]) | with_reducible refine lk_go Ln ?_ | wp_step)
  split
  · rename_i c hcd
    exact absurd hcd (hnc c)
  unfold instanceDict
  repeat (first | (with_reducible refine wpAny_loadPart_at hx ?_; rw [hc]) | with_reducible refine wpAny_loadPart_at hC ?_ | wp_step)
  rw [hdx]
  repeat (first | (with_reducible refine wpAny_nsGet hns.ns ?_; rw [hv]) | wp_step)
  exact hq
theorem get_own {expr : Bool} {dx : Addr} {mA : Str → Option Value} {Q : Value → Shared → Prop} (T : OwnTail h vMro bm) (hC : h.get? C = some (excClassObj nm q C N bs bm true sn sub ab col dd k0 k1 k2 k3 k5 newId))
    (Lg : PySem.W.Looks (model prog w) h (typeLookup (.ref C) "__getattribute__") (some (.builtin "BaseException.__getattribute__"))) (La : PySem.W.Looks (model prog w) h (typeLookup (.ref C) "__getattr__") none) (Ln : PySem.W.Looks (model prog w) h (typeLookup (.ref C) name) none)
    (hx : h.get? x = some o) (hc : o.cls = .ref C) (hnc : ∀ c, o.data ≠ .cls c) (hdx : o.dict = some dx) (hns : h.Ns1 dx mA) (hv : mA name = some v) (hh : handedOut v = pure v) (hq : Q v ⟨h, g, d, t + 1, os⟩) :
    wpAny (model prog w) A (getAttr (.ref x) name expr) Q E ⟨h, g, d, t, os⟩ := by
  have f3 := F.attrBase_ValueError.ga.bind (.ref x)
  have hx0 : (expr && onTheHeap (Value.builtin "BaseException.__getattribute__")) = false := by cases expr <;> rfl
  have hx2 : (Value.builtin "BaseException.__getattribute__" == Value.builtin "object.__getattribute__") = false := by decide +kernel
  have hx1 : (onTheHeap (Value.ref C) && Value.builtin "BaseException.__getattribute__" == Value.builtin "object.__getattribute__") = false := by rw [hx2]; rfl
  unfold getAttr
  repeat (any_goals (first | assumption | (with_reducible refine wpAny_loadPart_at hx ?_; rw [hc]) | with_reducible refine lk_go Lg ?_ | with_reducible refine lk_go La ?_ | wp_step))
  refine codeAny_call_builtin F.attrBase_ValueError.ga.plain F.entry_bexc_ga (check_get T hC hx hc (get_entry hC Ln hx hc hnc hdx hns hv ?_))
  repeat (any_goals (first | assumption | wp_step))
end
end PySem
namespace L2
open PySem PySem.Spec PyProof.Rows
def initIn (K : PySem.W.Frag) (C f : Addr) : Bool := (match K.lookup f with
  | some o => o.cls == .type "function"
  | none => false) && match K.lookup C with
  | some ⟨.type "type", _, .cls cd, sl⟩ => (match cd.mro, sl.toList with
    | .ref C' :: bm, [_, _, _, _, some (.builtin n), _] => C' == C && n == "ValueError.__new__" && !cd.hasDel && cd.hasDict && PySem.W.tailIn K vErr bm
    | _, _ => false)
  | _ => false
theorem init_obj {K : PySem.W.Frag} {h : Heap} {C f : Addr} (X : K.In h) (q : initIn K C f = true) :
    (∃ oI, h.get? f = some oI ∧ oI.cls = .type "function") ∧ ∃ bm N nm qn bs sn sub ab col dd k0 k1 k2 k3 k5, h.get? C = some (excClassObj nm qn C N bs bm true sn sub ab col dd k0 k1 k2 k3 k5 "ValueError.__new__") ∧ OwnTail h vErr bm := by
  unfold initIn at q
  rw [Bool.and_eq_true] at q
  obtain ⟨q0, q⟩ := q
  refine ⟨?_, ?_⟩
  · split at q0
    · rename_i o ho
      exact ⟨o, X _ _ ho, beq_iff_eq.mp q0⟩
    · cases q0
  split at q
  · rename_i dd cd sl ho
    split at q
    · rename_i C' bm k0 k1 k2 k3 n k5 hm hs
      simp only [Bool.and_eq_true, beq_iff_eq, Bool.not_eq_true'] at q
      obtain ⟨⟨⟨⟨rfl, rfl⟩, hdel⟩, hdc⟩, ht⟩ := q
      obtain ⟨nm, bs, mro, ns, qn, hd, sn, sub, ab, col, del⟩ := cd
      dsimp only at hm hdel hdc
      subst hm hdel hdc
      have hsl : sl = #[k0, k1, k2, k3, some (.builtin "ValueError.__new__"), k5] := by
        obtain ⟨l⟩ := sl
        simp only at hs
        rw [hs]
      subst hsl
      exact ⟨bm, ns, nm, qn, bs, sn, sub, ab, col, dd, k0, k1, k2, k3, k5, X _ _ ho, PySem.W.tail_of_in X ht⟩
    · cases q
  · cases q
structure XInit (K : PySem.W.Frag) (C f : Addr) (x : Str) : Prop where
  cls : initIn K C f = true
  ini : PySem.W.findIn K (.ref C) "__init__" = some (some (.ref f))
  sa : PySem.W.findIn K (.ref C) "__setattr__" = some (some (.builtin "object.__setattr__"))
  ga : PySem.W.findIn K (.ref C) "__getattribute__" = some (some (.builtin "BaseException.__getattribute__"))
  gn : PySem.W.findIn K (.ref C) "__getattr__" = some none
  no : PySem.W.findIn K (.ref C) x = some none
def IsExc0 (ea C : Addr) : HO := .ext fun h => ∃ t sl, h.get? ea = some ⟨.ref C, none, .fields #[.ref t, .none, .none, .none, .bool false, .none], sl⟩
def IsExc1 (ea C d : Addr) : HO := .ext fun h => ∃ t sl, h.get? ea = some ⟨.ref C, some d, .fields #[.ref t, .none, .none, .none, .bool false, .none], sl⟩
section
variable {X : Cx} {pins : List (Addr × Obj)} {σ : St} {H : Hp} {s : Shared}
theorem Inv.old0 (I : Inv X pins σ H s) (hex : X.ex = []) {b : Addr} (e : s.heap.get? b = none) : X.s₀.heap.get? b = none := by
  cases q : X.s₀.heap.get? b with
  | none => rfl
  | some o =>
    have base := I.base
    rw [hex] at base
    obtain ⟨o1, e1⟩ := base.there b o q (by simp)
    rw [e] at e1
    cases e1
def sXSet (C : Addr) (ta tv : TE) (f : Str) : TS := fun D σ H => tv σ H fun y H1 => ta σ H1 fun x H2 => ∃ a, x = .ref a ∧ H2 a = some (IsExc0 a C) ∧ ∀ d, H2 d = none → D.nx σ (upd (upd H2 a (IsExc1 a C d)) d (.xd [(f, y)]))
theorem ps_xset {C fi : Addr} {o value : Expr} {f : Str} {pos pos' : Pos} {ta tv : TE} (hI : XInit X.K C fi f) (hex : X.ex = []) (ha : PE X o ta) (hv : PE X value tv) (hs : swapsWith value (some (.Attribute o f pos')) pos.line X.env = pure false) :
    PS X (.Assign [.Attribute o f pos'] value pos) (sXSet C ta tv f) := by
  intro pins s σ H D I h
  refine plainObj_wpAny_Assign_Attribute (thn (hv pins s σ H _ I h) fun u s1 ⟨y, H1, I1, ry, q⟩ => thn (ha pins s1 σ H1 _ I1 q) fun ov s2 ⟨x, H2, I2, rx, a, ex, ea, q2⟩ => ?_) hs
  subst ex
  obtain rfl : ov = Value.ref a := rx
  obtain ⟨⟨t, sl, hx⟩, _, _⟩ := I2.hok a _ ea
  obtain ⟨_, bm, N, nm, qn, bs, sn, sub, ab, col, dd, k0, k1, k2, k3, k5, hC, T⟩ := init_obj I2.kIn hI.cls
  obtain ⟨hp, g, dr, tk, os⟩ := s2
  refine set_first T hC (PySem.W.looks_findIn I2.kIn hI.sa) (PySem.W.looks_findIn I2.kIn hI.no) hx rfl (fun c z => by cases z) rfl fun h' tk' d n1 n2 e1 e2 kp => ?_
  have hd0 : H2 d = none := by
    cases z : H2 d with
    | none => rfl
    | some u =>
      obtain ⟨o', e'⟩ := (I2.hok d u z).there
      rw [show hp.get? d = none from n1] at e'
      cases e'
  have I3 : Inv X pins σ (upd H2 a (IsExc1 a C d)) ⟨h', g, dr, tk', os⟩ := by
    refine I2.write (x := a) (e := a) (h' := h') (t' := tk') (by rw [ea]; exact True.intro) (.inl rfl) (fun b u hb e => kp b u hb e) ⟨_, e1⟩ ⟨⟨t, sl, e1⟩, ⟨_, e1⟩, fun h1 h2 p k => ?_⟩
    obtain ⟨t', sl', e'⟩ := p
    exact ⟨t', sl', k _ e'⟩
  have hd1 : hp.get? d = none := n1
  have ne0 : ∀ b o, hp.get? b = some o → b ≠ d := fun b o e z => by rw [z, hd1] at e; cases e
  have I4 : Inv X pins σ (upd (upd H2 a (IsExc1 a C d)) d (.xd [(f, y)])) ⟨h', g, dr, tk', os⟩ := by
    refine I3.track hex (by rw [upd_ne n2]; exact hd0) (I2.old0 hex hd1) ?_ (fun z c e => ?_) (fun p hp' => ?_) ⟨_, e2, fun z => ?_⟩
    · obtain ⟨m, ⟨o', _, _, ho', _⟩, _⟩ := I2.loc
      exact (ne0 _ _ ho').symm
    · obtain ⟨v', o', ho', _⟩ := I2.cell z c e
      exact ne0 _ _ ho'
    · exact ne0 _ _ (I2.pin p hp').1
    · rw [List.lookup_cons]
      by_cases hz : z = f
      · subst hz
        simp only [beq_self_eq_true, if_true]
        exact ry
      · have : (z == f) = false := by simpa using hz
        rw [this, if_neg hz]
        exact True.intro
  exact ⟨σ, _, I4, q2 d hd0⟩
theorem Inv.drop {a : Addr} {φ : Heap → Prop} (I : Inv X pins σ H s) (ha : H a = some (.ext φ)) : Inv X pins σ (fun b => if b = a then none else H b) s := by
  have ne : ∀ {b : Addr} {u : HO}, H b = some u → (∀ ψ, u ≠ .ext ψ) → b ≠ a := fun {b u} e h z => by
    subst z
    rw [ha] at e
    exact h _ (Option.some.inj e).symm
  have at_ : ∀ {b : Addr}, b ≠ a → (fun b => if b = a then none else H b) b = H b := fun h => if_neg h
  have nn : ∀ {b : Addr}, H b = none → (fun b => if b = a then none else H b) b = none := fun {b} h => by
    by_cases z : b = a
    · exact if_pos z
    · exact (if_neg z).trans h
  refine ⟨I.ok, I.os, I.bare, ⟨I.base.keep, I.base.slot, fun b ob e n hx => nn (I.base.free b ob e n hx), I.base.there, fun b xs q => ?_, fun b ob v q => ?_, fun b ps q => ?_⟩, I.loc, I.cell, nn I.free, fun x c e => nn (I.freeC x c e), fun p hp => ?_, fun b v e => ?_, I.len⟩
  · have q' := I.base.tups b xs q
    exact (at_ (ne q' fun _ z => nomatch z)).trans q'
  · have q' := I.base.frzs b ob v q
    exact (at_ (ne q' fun _ z => nomatch z)).trans q'
  · obtain ⟨more, z⟩ := I.base.tbls b ps q
    exact ⟨more, (at_ (ne z fun _ z => nomatch z)).trans z⟩
  · obtain ⟨q1, q2, q3⟩ := I.pin p hp
    exact ⟨q1, nn q2, q3⟩
  · by_cases z : b = a
    · have e' : (if b = a then none else H b) = some v := e
      rw [if_pos z] at e'
      cases e'
    · have e' : H b = some v := (at_ z).symm.trans e
      exact (I.hok b v e').stay (fun _ _ _ q => q) (fun c q => (at_ (ne q fun _ z => nomatch z)).trans q) fun c xs q => (at_ (ne q fun _ z => nomatch z)).trans q
end
def CX2 (P : Program) (w : World) : CXT := fun l H s E e s' => ∃ ea cls dd H', e = .ref ea ∧ Fly P w l H H' s s' ea cls ∧ (∃ oe, s'.heap.get? ea = some oe ∧ oe.dict = dd) ∧ E cls dd H'
theorem pass2_0 {P : Program} {w : World} {X : Cx} : Passes (CX2 P w) X E0 := fun _ _ _ _ _ _ _ ⟨_, _, _, _, _, _, _, z⟩ => z.elim
section
variable {P : Program} {w : World} {K : PySem.W.Frag} {mg : Str → Option Value} {base : Heap} {N : List Str} {qual : Str} {scope : Scope} {f : Addr} {cd : Value} {A : Around} {outer : List Env} {s : Shared} {H : Hp} {E : XK}
theorem pass2 : Passes (CX2 P w) (cxOf (CX2 P w) P w K mg base N qual scope f cd A outer s H E) E := by
  intro pins σ H1 s1 e s' I h
  obtain ⟨ea, cls, dd, H', rfl, F, ⟨oe, he, hdd⟩, q⟩ := h
  obtain ⟨B, t, hf, k1, k2⟩ := F.fly
  show wpAny (model P w) (A.deeper (envOfC qual scope s.heap.objs.size f cd)) (leaving (envOfC qual scope s.heap.objs.size f cd) (.ref ea)) _ _ s'
  refine wpAny_mono (wpAny_dk dk_leaving (wpAny_leaves_onW (E := fun _ _ => False) (Q := fun _ s'' => ∃ h', s'' = { s' with heap := h' } ∧ Heap.FlyingW B outer ea cls (.ref t) h' ∧ s'.heap.UpToSlots h') I.ok.frames (L := s.heap.objs.size) rfl hf fun h' hf' hu => ⟨h', rfl, hf', hu⟩))
    (fun _ s'' ⟨⟨h', e1, hf', hu⟩, kd⟩ => ?_) (fun _ _ c => c.1.elim)
  subst e1
  obtain ⟨o2, e2, d2⟩ := kd ea oe he
  exact ⟨ea, cls, dd, H', rfl, fly_on I rfl F hf' hu k1 k2, ⟨o2, e2, d2.trans hdd⟩, q⟩
theorem raise2 {pins : List (Addr × Obj)} {σ : St} {H1 : Hp} {s1 : Shared} {ea t : Addr} {oe : Obj} (I : Inv (cxOf (CX2 P w) P w K mg base N qual scope f cd A outer s H E) pins σ H1 s1) (he : s1.heap.get? ea = some oe)
    (hd : oe.data = .fields #[.ref t, .none, .none, .none, .bool false, .none]) (new : s.heap.get? ea = none) (hn : H1 ea = none) (q : E oe.cls oe.dict H1) : (cxOf (CX2 P w) P w K mg base N qual scope f cd A outer s H E).xe (.ref ea) s1 := by
  have noE : ∀ b : Addr, b ∉ ([] : List Addr) := fun b => by simp
  have ib : Un (frs outer) [] H H1 s.heap s1.heap := I.base
  obtain ⟨stk, estk⟩ : ∃ stk, stk = envOfC qual scope s.heap.objs.size f cd :: outer := ⟨_, rfl⟩
  have hin : ∀ env ∈ stk, ∀ b, env.frame = some b → b ∈ ea :: frs stk := fun env he b hb => List.mem_cons_of_mem _ (List.mem_filterMap.mpr ⟨env, he, hb⟩)
  have hideg : ∀ b o, s1.heap.get? b = some o → b ≠ ea → b ∉ frs stk → (PySem.W.hideAll s1.heap (ea :: frs stk)).get? b = some o := fun b o e h1 h2 => PySem.W.hideAll_get _ e fun z => (List.mem_cons.mp z).elim h1 h2
  have stkNe : ∀ b o, s.heap.get? b = some o → b ∉ frs outer → b ∉ frs stk := fun b o e hb => by rw [estk]; exact I.stkNe e hb
  have neS : ∀ b o, s.heap.get? b = some o → b ≠ ea := fun b o e z => by rw [z, new] at e; cases e
  have neH : ∀ b u, H1 b = some u → b ≠ ea := fun b u e z => by rw [z, hn] at e; cases e
  have trk : ∀ b u, H1 b = some u → b ∉ frs stk := fun b u e z => by
    rw [estk] at z
    have := I.stkFree b z
    rw [e] at this
    cases this
  have IS : s1.heap.FunFrames (PySem.W.hideAll s1.heap (ea :: frs stk)) (envOfC qual scope s.heap.objs.size f cd :: outer) := by
    rw [estk]
    exact PySem.W.funFrames_hide I.stack (by rw [estk] at hin; exact hin)
  show wpAny (model P w) (A.deeper (envOfC qual scope s.heap.objs.size f cd)) (leaving (envOfC qual scope s.heap.objs.size f cd) (.ref ea)) _ _ s1
  refine wpAny_mono (wpAny_dk dk_leaving (wpAny_leaving_firstW (E := fun _ _ => False) (base := PySem.W.hideAll s1.heap (ea :: frs stk)) (a0 := .ref t) (Q := fun _ s'' => ∃ h', s'' = { s1 with heap := h' } ∧ Heap.LeftW (PySem.W.hideAll s1.heap (ea :: frs stk)) (envOfC qual scope s.heap.objs.size f cd :: outer) ea oe.cls (.ref t) s1.heap h')
    I.ok.frames IS rfl he (fun b o q => PySem.W.of_hideAll _ q) (PySem.W.hideAll_none _ (by simp)) hd rfl rfl fun h' hL => ⟨h', rfl, hL⟩)) (fun _ s'' ⟨⟨h', e1, hL⟩, kd⟩ => ?_) (fun _ _ c => c.1.elim)
  subst e1
  obtain ⟨o2, e2, d2⟩ := kd ea oe he
  obtain ⟨x1, ⟨_, _, x2⟩, x3, x4⟩ := hL
  have stay : ∀ b o, s1.heap.get? b = some o → b ≠ ea → b ∉ frs stk → h'.get? b = some o := fun b o e h1 h2 => x1 _ _ (hideg b o e h1 h2)
  have slots : ∀ b o, s.heap.get? b = some o → H b = none → b ∈ frs outer → ∃ sl, h'.get? b = some { o with slots := sl } := fun b o e n hb => by
    obtain ⟨sl, e1⟩ := ib.slot b o e n hb (noE b)
    obtain ⟨_, o3, e3, nf⟩ := I.ok.funs.mem hb
    have e3' : s.heap.get? b = some o3 := e3
    rw [e] at e3'
    cases e3'
    obtain ⟨sl3, e4⟩ := x4 b _ e1 nf
    exact ⟨sl3, e4⟩
  refine ⟨ea, oe.cls, oe.dict, H1, rfl, ⟨I.os, I.bare, ⟨fun b o e n hb _ => ?_, fun b o e n hb _ => slots b o e n hb, fun b o e n _ => ib.free b o e n (noE b), fun b o e _ => ?_, ib.tups, ib.frzs, ib.tbls⟩, fun b u e => ?_, ⟨PySem.W.hideAll s1.heap (ea :: frs stk), t, ⟨x1, PySem.W.hideAll_none _ (by simp), x2, x3⟩, fun b o o' e e' hb => ?_, fun b u o' q e' => ?_⟩, new⟩, ⟨o2, e2, d2⟩, q⟩
  · exact stay b o (ib.keep b o e n hb (noE b)) (neS b o e) (stkNe b o e hb)
  · by_cases hb : b ∈ frs outer
    · obtain ⟨sl, q⟩ := slots b o e (I.ok.frf b hb) hb
      exact ⟨_, q⟩
    · obtain ⟨o1, e1⟩ := ib.there b o e (noE b)
      exact ⟨o1, stay b o1 e1 (neS b o e) (stkNe b o e hb)⟩
  · refine (I.hok b u e).stay (fun c v hc q => ?_) (fun _ q => q) fun _ _ q => q
    rcases hc with z | z
    · subst z
      exact stay _ _ q (neH _ _ e) (trk _ _ e)
    · exact stay _ _ q (neH _ _ z) (trk _ _ z)
  · obtain ⟨o1, e1⟩ := ib.there b o e (noE b)
    have z := stay b o1 e1 (neS b o e) (stkNe b o e hb)
    have e2 : h'.get? b = some o' := e'
    rw [z] at e2
    cases e2
    exact hideg b _ e1 (neS b o e) (stkNe b o e hb)
  · obtain ⟨o1, e1⟩ := (I.hok b u q).there
    have z := stay b o1 e1 (neH _ _ q) (trk _ _ q)
    have e2 : h'.get? b = some o' := e'
    rw [z] at e2
    cases e2
    exact hideg b _ e1 (neH _ _ q) (trk _ _ q)
end
end L2
namespace L2
open PySem PySem.Spec PyProof.Rows
section
variable {P : Program} {w : World} {K : PySem.W.Frag} {mg : Str → Option Value} {base : Heap}
theorem Fun.okY {x qual : Str} {st : Stmt} {f : Addr} {fd : FuncData} {N ps : List Str} {k : Nat} {sp : Sp} (F : Fun K x qual st f fd) (S : FnScope N ps (defScope st)) (len : ∀ vs H Q E, sp vs H Q E → vs.length = ps.length)
    (hbody : ∀ (cdv : Value) (A : Around) (outer : List Env) (s : Shared) (H : Hp) (vs : List V) (Q : VK) (E : XK), Room k (A.deeper (envOfC qual (defScope st) s.heap.objs.size f cdv)) → sp vs H Q E →
      ∃ t, PSs (cxOf (CX2 P w) P w K mg base N qual (defScope st) f cdv A outer s H E) (defBody st) t ∧ t { nx := fun _ H' => Q .non H', rt := Q } (start N vs) H) : FnOk P w K mg base (CX2 P w) (k + 1) f fd ps sp := by
  obtain ⟨oc, od, kV, doc, pm, an, cdv, ct, osl, rfl, lk, hcd⟩ := F.ex
  exact fn_of lk hcd S len fun A outer s H vs Q E hr hsp => hbody cdv A outer s H vs Q E hr hsp
theorem Inv.fresh' {X : Cx} {pins : List (Addr × Obj)} {σ : St} {H : Hp} {s : Shared} (I : Inv X pins σ H s) {a : Addr} (e : s.heap.get? a = none) : H a = none := by
  cases z : H a with
  | none => rfl
  | some u =>
    obtain ⟨o, q⟩ := (I.hok a u z).there
    rw [e] at q
    cases q
theorem ps_raise2 {N : List Str} {qual : Str} {scope : Scope} {f : Addr} {cd : Value} {A : Around} {outer : List Env} {s : Shared} {H : Hp} {E : XK} {x : Str} {C : Addr} {e : Expr} {es : List Expr} {t : TA} {np cpos pos : Pos}
    (hg : Gl (cxOf (CX2 P w) P w K mg base N qual scope f cd A outer s H E) x) (hm : mg x = some (.ref C)) (hC : XCls K C) (ha : PA (cxOf (CX2 P w) P w K mg base N qual scope f cd A outer s H E) (e :: es) t)
    (hdb : (x == ("__debug__" : Str)) = false := by decide) (he : starEach (e :: es) (envOfC qual scope s.heap.objs.size f cd) = (false, eval e (envOfC qual scope s.heap.objs.size f cd)) :: starEach es (envOfC qual scope s.heap.objs.size f cd) := by rfl)
    (hpl : (backTo cpos (starEach es (envOfC qual scope s.heap.objs.size f cd))).any (·.1) = false := by rfl) :
    PS (cxOf (CX2 P w) P w K mg base N qual scope f cd A outer s H E) (.Raise (some (.Call (.Name x np) (e :: es) [] cpos)) none pos) (tRaise (E (.ref C) none) t) :=
  ps_raise rfl hg hm hC ha (fun {pins σ H1 s1 ea vs h1} I hx q => by
    obtain ⟨t, h2, _, _⟩ := hx.there
    exact raise2 (I.kept (t' := s1.toks) hx.keeps) h2 rfl (I.old0 rfl hx.new) (I.fresh' hx.new) q) hdb he hpl
end
def tRaiseI (C : Addr) (sp : Sp) (W : Option Addr → Hp → Prop) (t : TA) : TS := fun _ σ H => t σ H fun vs H1 => vs.length ≤ sizeLine ∧
  ∀ ea, H1 ea = none → sp (.ref ea :: vs) (upd H1 ea (IsExc0 ea C)) (fun v H2 => v = .non ∧ ∃ d, H2 ea = some (IsExc1 ea C d) ∧ W (some d) (fun b => if b = ea then none else H2 b)) E0
section
variable {X : Cx}
theorem ps_raiseI {k : Nat} {fI C : Addr} {fd : FuncData} {ps : List Str} {sp : Sp} {fld x : Str} {e : Expr} {es : List Expr} {t : TA} {np cpos pos : Pos} {W : Option Addr → Hp → Prop} (hc : X.calm = true) (hex : X.ex = []) (hg : Gl X x) (hm : X.mg x = some (.ref C))
    (hI : XInit X.K C fI fld) (Fn : FnOk X.prog X.w X.K X.mg X.base CX0 k fI fd ps sp) (hr : Room (k + 1) X.A) (hb : Binds X.K fd ps []) (ha : PA X (e :: es) t)
    (hxe : ∀ {pins : List (Addr × Obj)} {σ : St} {H : Hp} {s : Shared} {ea t : Addr} {oe : Obj}, Inv X pins σ H s → s.heap.get? ea = some oe → oe.data = .fields #[.ref t, .none, .none, .none, .bool false, .none] → X.s₀.heap.get? ea = none → H ea = none → oe.cls = .ref C → W oe.dict H → X.xe (.ref ea) s)
    (hdb : (x == ("__debug__" : Str)) = false := by decide) (he : starEach (e :: es) X.env = (false, eval e X.env) :: starEach es X.env := by rfl) (hpl : (backTo cpos (starEach es X.env)).any (·.1) = false := by rfl) :
    PS X (.Raise (some (.Call (.Name x np) (e :: es) [] cpos)) none pos) (tRaiseI C sp W t) := by
  intro pins s σ H D I h
  have FB := F.excBase_ValueError
  obtain ⟨_, bm, N, nm, qn, bs, sn, sub, ab, col, dd, k0, k1, k2, k3, k5, hC0, T0⟩ := init_obj I.mod.kin hI.cls
  have hpl' : ((backTo cpos (starEach (e :: es) X.env)).any fun x => x.fst) = false := by rw [he]; show (false || (backTo cpos (starEach es X.env)).any (·.1)) = false; rw [hpl]; rfl
  rw [arm_exec_Raise]
  refine wpAny_bind (wpAny_standAt ?_)
  refine raise_made (C := C) (nm := nm) (q := qn) (N := N) (bs := bs) (bm := bm) (hdct := true) (sn := sn) (sub := sub) (ab := ab) (col := col) (dd := dd) (k0 := k0) (k1 := k1) (k2 := k2) (k3 := k3) (k5 := k5) (newId := "ValueError.__new__")
    (T0.hasType FB.hasBase) (I.ok.hd hc) (wpAny_bind (wpAny_mono (wpAny_Call_ofName (ld_glob I hg hm ?_ hdb)) (fun v s3 h3 => wpAny_bind (wpAny_standAt (wpAny_pure h3))) fun _ _ x => x))
  have h1 : wpAny (model X.prog X.w) X.A (evalArgs (.ref C) true (backTo cpos (starEach (e :: es) X.env)) []) (fun a s2 => ∃ us vs H2, a = ⟨us, []⟩ ∧ Inv X pins σ H2 s2 ∧ Vals vs us ∧ vs.length ≤ sizeLine ∧
      ∀ ea, H2 ea = none → sp (.ref ea :: vs) (upd H2 ea (IsExc0 ea C)) (fun v H3 => v = .non ∧ ∃ d, H3 ea = some (IsExc1 ea C d) ∧ W (some d) (fun b => if b = ea then none else H3 b)) E0) X.xe s := by
    have hA := ha cpos pins s σ H _ I h
    rw [he] at hA ⊢
    exact Calls.evalArgs_plain (thn hA fun us s2 ⟨vs, H2, I2, r2, hz, q2⟩ => ⟨us, vs, H2, rfl, I2, r2, hz, q2⟩)
  unfold callWith
  refine wpAny_bind (wpAny_holding (wpAny_mono h1 (fun a s2 h2 => wpAny_bind (wpAny_standAt ?_)) fun _ _ x => x))
  obtain ⟨us, vs, H2, rfl, I2, r2, hz, q2⟩ := h2
  have hC := I2.bk _ _ hC0
  have T := T0.keeps I2.bk
  obtain ⟨⟨oI, hoI, hoc⟩, _⟩ := init_obj I2.kIn hI.cls
  obtain ⟨hp, g, dr, tk, os⟩ := s2
  simp only [hpl']
  refine wpAny_bind (wpAny_keeperOf_exc hC ?_)
  refine wpAny_bind (made_init FB T hC (PySem.W.looks_findIn I2.kIn hI.ini) hoI hoc (by show us.length ≤ sizeLine; rw [← r2.length]; exact hz) fun h' ea hmd => ?_)
  have hna : hp.get? ea = none := hmd.new
  have ne0 : ∀ b o, hp.get? b = some o → b ≠ ea := fun b o e z => by rw [z, hna] at e; cases e
  obtain ⟨t0, het, _, _⟩ := hmd.there
  have I3 : Inv X pins σ H2 ⟨h', g, dr, tk, os⟩ := I2.kept (t' := tk) hmd.keeps
  have hH2 : H2 ea = none := I2.fresh' hna
  have I4 : Inv X pins σ (upd H2 ea (IsExc0 ea C)) ⟨h', g, dr, tk, os⟩ := by
    refine I3.track hex hH2 (I2.old0 hex hna) ?_ (fun z c e => ?_) (fun p hp' => ?_) ⟨⟨t0, _, het⟩, ⟨_, het⟩, fun h1 h2 p k => ?_⟩
    · obtain ⟨m, ⟨o', _, _, ho', _⟩, _⟩ := I2.loc
      exact (ne0 _ _ ho').symm
    · obtain ⟨v', o', ho', _⟩ := I2.cell z c e
      exact ne0 _ _ ho'
    · exact ne0 _ _ (I2.pin p hp').1
    · obtain ⟨t', sl', e'⟩ := p
      exact ⟨t', sl', k _ e'⟩
  have hq := q2 ea hH2
  have r3 : Vals (V.ref ea :: vs) (Value.ref ea :: us) := .cons rfl r2
  have hl : (Value.ref ea :: us ++ []).length = ps.length := by
    have e := r3.length
    rw [Fn.len _ _ _ _ hq] at e
    rw [List.append_nil]
    exact e.symm
  have hbt := hb ⟨h', g, dr, tk, os⟩ (Value.ref ea :: us) I4.kIn hl
  rw [List.append_nil] at hbt
  refine wpAny_call (codeAny_mono (Fn.run _ X.stack _ _ ⟨Value.ref ea :: us, []⟩ (Value.ref ea :: us) _ _ E0 (hr.make C us []) (I4.env0.make C us []) hbt r3 hq) fun r s' hq' => ?_)
  cases r with
  | error e' => exact False.elim hq'
  | ok fl =>
    cases fl with
    | ret u =>
      obtain ⟨v, H5, I5, rv, ⟨ev, d, hd5, w5⟩⟩ := I4.after hq'
      subst ev
      refine ⟨rv, wpAny_bind (wpAny_holding (wpAny_point (wpAny_pure ?_)))⟩
      obtain ⟨⟨t5, sl5, he5⟩, _, _⟩ := I5.hok ea _ hd5
      exact ⟨ea, _, t5, rfl, I5.bk _ _ hC0, he5, rfl, rfl, hxe (I5.drop hd5) he5 rfl (I2.old0 hex hna) (if_pos rfl) rfl w5⟩
    | next => exact False.elim hq'
    | brk => exact False.elim hq'
    | cont => exact False.elim hq'
end
end L2
namespace L2
open PySem PySem.Spec PyProof.Rows
def ExcO (ea : Addr) (cls : Value) (dd : Option Addr) : HO := .ext fun h => ∃ o vs, h.get? ea = some o ∧ o.cls = cls ∧ o.data = .fields vs ∧ o.dict = dd
def tryCy (X : Cx) (pn : List (Addr × Obj)) (W : St → Value → Option Addr → Hp → Prop) : Cx :=
  { X with pn := pn, xe := fun e s' => ∃ (pins : List (Addr × Obj)) (σ : St) (H : Hp) (s0 : Shared) (ea : Addr) (cls : Value) (dd : Option Addr) (H' : Hp), e = .ref ea ∧ Inv { X with pn := pn } pins σ H s0 ∧ Fly X.prog X.w X.stack H H' s0 s' ea cls ∧ (∃ oe, s'.heap.get? ea = some oe ∧ oe.dict = dd) ∧ W σ cls dd H' }
section
variable {X : Cx} {pins pn : List (Addr × Obj)} {σ : St} {H H' : Hp} {s s' : Shared}
theorem Inv.toTry2 {W : St → Value → Option Addr → Hp → Prop} (I : Inv X pins σ H s) (h : ∀ p ∈ pn, p ∈ X.pn ++ pins) : Inv (tryCy X pn W) pins σ H s :=
  I.recx (Y := tryCy X pn W) (I.ok.recx (Y := tryCy X pn W) ⟨rfl, rfl, rfl⟩ rfl rfl rfl rfl rfl rfl rfl I.ok.hd I.ok.frames) rfl rfl rfl rfl rfl rfl rfl rfl fun p hp => (List.mem_append.mp hp).elim (h p) fun z => List.mem_append_right _ z
theorem Inv.ofTry2 {W : St → Value → Option Addr → Hp → Prop} (I : Inv (tryCy X pn W) pins σ H s) : Inv { X with pn := pn } pins σ H s :=
  I.recx (Y := { X with pn := pn }) (I.ok.recx (Y := { X with pn := pn }) ⟨rfl, rfl, rfl⟩ rfl rfl rfl rfl rfl rfl rfl I.ok.hd I.ok.frames) rfl rfl rfl rfl rfl rfl rfl rfl fun _ hp => hp
def tCallU (sp : Sp) (dvs : List V) (W : St → Value → Option Addr → Hp → Prop) (t : TA) : TE := fun σ H Q => t σ H fun vs H1 => sp (vs ++ dvs) H1 Q fun cls dd H' => W σ cls dd H'
theorem try_xe2 {W : St → Value → Option Addr → Hp → Prop} (I : Inv (tryCy X pn W) pins σ H s) (e : Value) (s' : Shared) (h : CX2 X.prog X.w X.stack H s (fun cls dd H' => W σ cls dd H') e s') : (tryCy X pn W).xe e s' := by
  obtain ⟨ea, cls, dd, H', rfl, F, hd, q⟩ := h
  exact ⟨pins, σ, H, s, ea, cls, dd, H', rfl, I.ofTry2, F, hd, q⟩
theorem pe_callU {W : St → Value → Option Addr → Hp → Prop} {k : Nat} {f : Addr} {fd : FuncData} {ps : List Str} {sp : Sp} {dvs : List V} {ds : List Value} {x : Str} {p pos : Pos} {e : Expr} {es : List Expr} {t : TA}
    (F : FnOk X.prog X.w X.K X.mg X.base (CX2 X.prog X.w) k f fd ps sp) (hr : Room k X.A) (hg : Gl X x) (hm : X.mg x = some (.ref f)) (hk : PySem.W.keepIn X.K (.ref f) = true) (hb : Binds X.K fd ps ds) (hd : Vals dvs ds) (ha : PA (tryCy X pn W) (e :: es) t)
    (hdb : (x == ("__debug__" : Str)) = false := by decide) (he : starEach (e :: es) X.env = (false, eval e X.env) :: starEach es X.env := by rfl) (hpl : (backTo pos (starEach es X.env)).any (·.1) = false := by rfl) :
    PE (tryCy X pn W) (.Call (.Name x p) (e :: es) [] pos) (tCallU sp dvs W t) := by
  intro pins s σ H Q I h
  refine wpAny_Call_Name_kw (ld_glob I hg hm ?_ hdb)
  refine PySem.W.callWith_K (h₀ := X.base) I.ok.mod.kin hk (thn (ha pos pins s σ H _ I h) fun us s1 ⟨vs, H1, I1, r, q⟩ => ⟨I1.kIn, ?_⟩) he hpl
  exact run_fnT F hr hb hd I1 (try_xe2 I1) r q
theorem Inv.less {a : Addr} {φ ψ : Heap → Prop} (I : Inv X pins σ H s) (ha : H a = some (.ext φ)) (h : ∀ h, φ h → ψ h) (st : ∀ h1 h2 : Heap, ψ h1 → (∀ o, h1.get? a = some o → h2.get? a = some o) → ψ h2) : Inv X pins σ (upd H a (.ext ψ)) s := by
  obtain ⟨p, ⟨o, e⟩, _⟩ := I.hok a _ ha
  exact I.write (t' := s.toks) (x := a) (e := a) (h' := s.heap) (by rw [ha]; exact True.intro) (.inl rfl) (fun b u _ q => q) ⟨o, e⟩ ⟨h _ p, ⟨o, e⟩, st⟩
def hEnd (D : Ends) (i : Nat) (ea : Addr) (cls : Value) (dd : Option Addr) : Ends :=
  { nx := fun σ2 H2 => H2 ea = some (ExcO ea cls dd) ∧ D.nx (σ2.set i none) (upd H2 ea (IsExc ea cls))
    rt := fun v H2 => H2 ea = some (ExcO ea cls dd) ∧ D.rt v (upd H2 ea (IsExc ea cls))
    bk := fun σ2 H2 => H2 ea = some (ExcO ea cls dd) ∧ D.bk (σ2.set i none) (upd H2 ea (IsExc ea cls))
    ct := fun σ2 H2 => H2 ea = some (ExcO ea cls dd) ∧ D.ct (σ2.set i none) (upd H2 ea (IsExc ea cls)) }
theorem hnd_fits {s0 s1 : Shared} {H1 : Hp} {D : Ends} {x n : Str} {i : Nat} {np hpos : Pos} {b₀ : Stmt} {suite : List Stmt} {rest : List ExceptHandler} {Pc C ea t : Addr} {dd : Option Addr} {ts : TS} {h₅ B : Heap} {σ' : St}
    (hstk : X.stack = X.env :: X.outer) (hex : X.ex = []) (hg : Gl X x) (hm : X.mg x = some (.ref Pc)) (hB : PySem.W.mroIn X.K Pc (.type "BaseException") = some true) (hN : X.N.Nodup) (hi : X.N[i]? = some n) (hn : X.env.scope.names.lookup n = some .local)
    (hs : ∀ ea, PSs (hndCx X ea) (b₀ :: suite) ts) (hdb : (x == ("__debug__" : Str)) = false) (IX : Inv X pins σ' H1 s0) (F : Fly X.prog X.w X.stack H1 H' s0 s1 ea (.ref C)) (hfl5 : Heap.FlyingW B X.stack ea (.ref C) (.ref t) h₅) (hu : s1.heap.UpToSlots h₅)
    (k1 : ∀ b o o', s0.heap.get? b = some o → s1.heap.get? b = some o' → b ∉ frs X.stack → B.get? b = some o') (k2 : ∀ b u o', H' b = some u → s1.heap.get? b = some o' → B.get? b = some o') (hea : H' ea = none) (hdd : ∃ oe, h₅.get? ea = some oe ∧ oe.dict = dd)
    (hsub : PySem.W.kitCls X.K (.ref C) (.ref Pc) = some true) (hts : ts (hEnd D i ea (.ref C) dd) (σ'.set i (some (.ref ea))) (upd H' ea (ExcO ea (.ref C) dd))) :
    wpAny (model X.prog X.w) X.A (handleBy (.ref ea) X.env (.ExceptHandler (some (.Name x np)) (some n) (b₀ :: suite) hpos :: rest)) (SP X pins D) X.xe { s1 with heap := h₅ } := by
  have noE : ∀ b : Addr, b ∉ ([] : List Addr) := fun b => by simp
  have I5 : Inv X pins σ' H' { s1 with heap := h₅ } := fly_here IX F hfl5 hu k1 k2
  obtain ⟨oe, ve, hoe, hoec, hoed, _⟩ := hfl5.first
  refine wpAny_handleBy_cons (codeAny_handlers_test (Calls.Name_function_global I5.ok.kind hg (Calls.loadGlobal_global (by rw [I5.ok.glob]; exact I5.mod.glob.keeps I5.bk) hm ?_) hdb)) (by intro q; cases q)
  refine looks_exc (K := X.K) (h := h₅) I5.kIn hoe hoec hsub hB _ _ _ _ (fun _ _ q => q) ?_
  show codeAny _ _ _ _ _
  refine codeAny_handlers_suite_as ?_
  refine wpAny_mono (wpAny_dk dk_setFlight (lands_againW (E := fun _ _ => False) (Q := fun _ s'' => ∃ h₆, s'' = { s1 with heap := h₆ } ∧ Heap.FlyingW B X.stack ea (.ref C) (.ref t) h₆ ∧ h₅.UpToSlots h₆) hfl5 fun h₆ hfl₆ hsm₆ => ⟨h₆, rfl, hfl₆, hsm₆⟩)) (fun _ s'' ⟨⟨h₆, e6, hfl₆, hsm₆⟩, kd⟩ => ?_) (fun _ _ z => z.1.elim)
  subst e6
  have I6 : Inv X pins σ' H' { s1 with heap := h₆ } := fly_here IX F hfl₆ (hu.trans hsm₆) k1 k2
  obtain ⟨oe6, ve6, hoe6, hoec6, hoed6, _⟩ := hfl₆.first
  have hd6 : oe6.dict = dd := by
    obtain ⟨o5, e5, d5⟩ := hdd
    obtain ⟨o6, e6, d6⟩ := kd ea o5 e5
    have e6' : h₆.get? ea = some o6 := e6
    rw [hoe6] at e6'
    cases e6'
    exact d6.trans d5
  have new0 : X.s₀.heap.get? ea = none := IX.old0 hex F.new
  have ne0 : ∀ b o, s0.heap.get? b = some o → b ≠ ea := fun b o e z => by rw [z, F.new] at e; cases e
  have I7 : Inv X pins σ' (upd H' ea (ExcO ea (.ref C) dd)) { s1 with heap := h₆ } := by
    refine I6.track hex hea new0 ?_ (fun y c e => ?_) (fun p hp => ?_) ⟨⟨oe6, ve6, hoe6, hoec6, hoed6, hd6⟩, ⟨oe6, hoe6⟩, fun h1 h2 p k => ?_⟩
    · obtain ⟨m, ⟨o, _, _, ho, _⟩, _⟩ := IX.loc
      exact (ne0 _ _ ho).symm
    · obtain ⟨v, o, ho, _⟩ := IX.cell y c e
      exact ne0 _ _ ho
    · exact ne0 _ _ (IX.pin p hp).1
    · obtain ⟨o, vs, e1, e2, e3, e4⟩ := p
      exact ⟨o, vs, k o e1, e2, e3, e4⟩
  refine store_ok (v := .ref ea) I7 hN hi (.inl hn) rfl (fun s8 I8 => ?_) (.inr hn)
  refine wpAny_mono (hs ea pins s8 _ _ _ I8.toHnd hts) (fun f s9 q => ?_) (fun _ _ z => z.elim)
  have wk : ∀ {σ9 : St} {H9 : Hp}, Inv X pins σ9 H9 s9 → H9 ea = some (ExcO ea (.ref C) dd) → Inv X pins σ9 (upd H9 ea (IsExc ea (.ref C))) s9 := fun J e => J.less e (fun h ⟨o, vs, a1, a2, a3, _⟩ => ⟨o, vs, a1, a2, a3⟩) fun h1 h2 p k => by
    obtain ⟨o, vs, e1, e2, e3⟩ := p
    exact ⟨o, vs, k o e1, e2, e3⟩
  have behind : ∀ {σ9 : St} {H9 : Hp}, Inv X pins σ9 H9 s9 → (∀ s10, Inv X pins (σ9.set i none) H9 s10 → SP X pins D f s10) →
      wpAny (model X.prog X.w) X.A (do bindName X.env n .none; unbindBehindTheSuite X.env n hpos) (fun _ s₃ => SP X pins D f s₃) X.xe s9 := fun {σ9 H9} J k => by
    refine wpAny_bind (wpAny_bindName (store_ok (v := .non) J hN hi (.inl hn) rfl (fun s10 I10 => ?_) (.inr hn)))
    obtain ⟨m, hm10, hl10⟩ := id I10.loc
    have hiσ : i < σ9.length := by rw [J.len]; exact (List.getElem?_eq_some_iff.mp hi).1
    obtain ⟨u, ru, lk⟩ := hl10 i n .non hi (by rw [List.getElem?_set_self hiσ]) (.inl hn)
    have hmn : m n = some u := by
      rcases lk with ⟨_, q⟩ | ⟨q, _⟩
      · exact q
      · rcases q with q | q
        · have q' : X.env.scope.names.lookup n = some .cell := q
          rw [hn] at q'
          cases q'
        · have q' : X.env.scope.names.lookup n = some .free := q
          rw [hn] at q'
          cases q'
    unfold unbindBehindTheSuite
    refine wpAny_onRaise (wpAny_unbindName_local (env := X.env) hn hm10 hmn (by rw [J.ok.kind]; rfl) fun h' u' hn' hs' => ?_)
    have I11 := I10.unset hN hi hm10 hl10 hn' hs'
    rw [List.set_set] at I11
    exact k _ I11
  show wpAny _ _ _ _ _ _
  cases f with
  | next =>
    obtain ⟨σ9, H9, I9, e9, q⟩ := q
    exact behind (wk (I9.ofHnd I8.ok) e9) fun s10 I10 => ⟨_, _, I10, q⟩
  | brk =>
    obtain ⟨σ9, H9, I9, e9, q⟩ := q
    exact behind (wk (I9.ofHnd I8.ok) e9) fun s10 I10 => ⟨_, _, I10, q⟩
  | cont =>
    obtain ⟨σ9, H9, I9, e9, q⟩ := q
    exact behind (wk (I9.ofHnd I8.ok) e9) fun s10 I10 => ⟨_, _, I10, q⟩
  | ret u =>
    obtain ⟨v, σ9, H9, I9, r, e9, q⟩ := q
    exact behind (wk (I9.ofHnd I8.ok) e9) fun s10 I10 => ⟨v, _, _, I10, r, q⟩
end
section
variable {X : Cx}
def tXFld (K : PySem.W.Frag) (ta : TE) (f : Str) : TE := fun σ H Q => ta σ H fun x H1 => ∃ a C fi d fs v, x = .ref a ∧ H1 a = some (ExcO a (.ref C) (some d)) ∧ H1 d = some (.xd fs) ∧ XInit K C fi f ∧ fs.lookup f = some v ∧ Q v H1
theorem pe_xfld {e : Expr} {f : Str} {pos : Pos} {ta : TE} (he : PE X e ta) (hb : attributeBase e f X.env (eval e X.env) = eval e X.env) : PE X (.Attribute e f pos) (tXFld X.K ta f) := by
  intro pins s σ H Q I h
  refine attr_of hb (thn (he pins s σ H _ I h) fun u s1 ⟨x, H1, I1, rx, a, C, fi, d, fs, v, ex, ea, ed, hI, l, q⟩ => ?_)
  subst ex
  obtain rfl : u = Value.ref a := rx
  obtain ⟨⟨o, vs, e1, e2, e3, e4⟩, _, _⟩ := I1.hok a _ ea
  obtain ⟨mA, hns, r⟩ := I1.hok d _ ed
  obtain ⟨_, bm, N, nm, qn, bs, sn, sub, ab, col, dd, k0, k1, k2, k3, k5, hC, T⟩ := init_obj I1.kIn hI.cls
  have rf := r f
  rw [l] at rf
  cases hv : mA f with
  | none => rw [hv] at rf; exact rf.elim
  | some y =>
    rw [hv] at rf
    have rv : RelV v y := rf
    obtain ⟨hp, g, dr, tk, os⟩ := s1
    exact get_own T hC (PySem.W.looks_findIn I1.kIn hI.ga) (PySem.W.looks_findIn I1.kIn hI.gn) (PySem.W.looks_findIn I1.kIn hI.no) e1 e2 (fun c z => by rw [e3] at z; cases z) e4 hns hv (PySem.W.handedOut_of (handed_of rv)) ⟨v, H1, I1.tok _, rv, q⟩
end
end L2
namespace L2
open PySem PySem.Spec PyProof.Rows
theorem ps_raiseJ {P : Program} {w : World} {K : PySem.W.Frag} {mg : Str → Option Value} {base : Heap} {N : List Str} {qual : Str} {scope : Scope} {f : Addr} {cd : Value} {A : Around} {outer : List Env} {s : Shared} {H : Hp} {E : XK} {k : Nat} {fI C : Addr} {fd : FuncData} {ps : List Str} {sp : Sp} {fld x : Str} {e : Expr} {es : List Expr} {t : TA} {np cpos pos : Pos}
    (hg : Gl (cxOf (CX2 P w) P w K mg base N qual scope f cd A outer s H E) x) (hm : mg x = some (.ref C)) (hI : XInit K C fI fld) (Fn : FnOk P w K mg base CX0 k fI fd ps sp) (hr : Room (k + 1) (cxOf (CX2 P w) P w K mg base N qual scope f cd A outer s H E).A) (hb : Binds K fd ps [])
    (ha : PA (cxOf (CX2 P w) P w K mg base N qual scope f cd A outer s H E) (e :: es) t)
    (hdb : (x == ("__debug__" : Str)) = false := by decide) (he : starEach (e :: es) (envOfC qual scope s.heap.objs.size f cd) = (false, eval e (envOfC qual scope s.heap.objs.size f cd)) :: starEach es (envOfC qual scope s.heap.objs.size f cd) := by rfl)
    (hpl : (backTo cpos (starEach es (envOfC qual scope s.heap.objs.size f cd))).any (·.1) = false := by rfl) :
    PS (cxOf (CX2 P w) P w K mg base N qual scope f cd A outer s H E) (.Raise (some (.Call (.Name x np) (e :: es) [] cpos)) none pos) (tRaiseI C sp (E (.ref C)) t) :=
  ps_raiseI rfl rfl hg hm hI Fn hr hb ha (fun I he hd new hn hc q => raise2 I he hd new hn (by rw [hc]; exact q)) hdb he hpl
end L2
namespace L2
open PySem PySem.Spec PyProof.Rows
theorem call_isSeqA {X : Cx} : CallR X (.builtin "isinstance") (fun xs H Q => ∃ x q b, xs = [x, .ref q] ∧ H q = some (.tup [.ty "list", .ty "tuple"]) ∧ ((b = true ∧ ∃ a, x = .ref a ∧ ((∃ ys, SqL X.K H a ys) ∨ ∃ ys, SqT X.K H a ys)) ∨ (b = false ∧ (x = .non ∨ (∃ i, x = .int i) ∨ (∃ y, x = .bl y) ∨ ∃ z, x = .str z))) ∧ Q (.bl b) H) := by
  intro pins s σ H xs us Q I r h
  obtain ⟨x, q, b, rfl, hq, hx, k⟩ := h
  rcases hx with ⟨rfl, a, rfl, hx⟩ | ⟨rfl, hx⟩
  · exact call_isSeq pins s σ H _ us Q I r ⟨a, q, rfl, hq, hx, k⟩
  obtain ⟨u, w, rfl, r1, r2⟩ := vals2 r
  cases r2
  obtain ⟨ts, rt, ht, _⟩ := I.tuple (SqT.of hq)
  obtain ⟨a, b, rfl, ra, rb⟩ := vals2 rt
  obtain rfl : a = Value.type "list" := ra
  obtain rfl : b = Value.type "tuple" := rb
  obtain ⟨⟨c, dd, dt, sl⟩, ho, hc, n, hd⟩ := ht
  simp only at hc hd
  subst hc hd
  have fin : ∀ tk, EP X pins σ Q (.bool false) { s with toks := tk } := fun tk => ⟨.bl false, H, I.tok tk, rfl, k⟩
  rcases hx with rfl | ⟨i, rfl⟩ | ⟨y, rfl⟩ | ⟨z, rfl⟩
  · cases (show u = Value.none from r1)
    exact PySem.W.kia_tup (its := [.type "list", .type "tuple"]) PySem.W.kitx_none I.kIn True.intro ho rfl (fun z => nomatch z) fin
  · obtain ⟨t, e⟩ := (show ∃ t, u = Value.int i t from r1)
    cases e
    exact PySem.W.kia_tup (its := [.type "list", .type "tuple"]) PySem.W.kitx_int I.kIn True.intro ho rfl (fun z => nomatch z) fin
  · cases (show u = Value.bool y from r1)
    exact PySem.W.kia_tup (its := [.type "list", .type "tuple"]) PySem.W.kitx_bool I.kIn True.intro ho rfl (fun z => nomatch z) fin
  · obtain ⟨t, e⟩ := (show ∃ t, u = Value.str z t from r1)
    cases e
    exact PySem.W.kia_tup (its := [.type "list", .type "tuple"]) PySem.W.kitx_str I.kIn True.intro ho rfl (fun z => nomatch z) fin
end L2
namespace L2
open PySem PySem.Spec PyProof.Rows
theorem px {X : Cx} {K : PySem.W.Frag} (i : Nat) {x f : Str} {p pos : Pos} (hK : X.K = K := by rfl) (hN : X.N[i]? = some x := by rfl) (hv : Vis X.env.scope x := by first | exact Or.inl rfl | exact Or.inr (Or.inl rfl) | exact Or.inr (Or.inr rfl)) (hd : (x == ("__debug__" : Str)) = false := by decide)
    (hcd : (x == ("__classdict__" : Str)) = false := by decide) (hb : attributeBase (.Name x p) f X.env (eval (.Name x p) X.env) = eval (.Name x p) X.env := by rfl) : PE X (.Attribute (.Name x p) f pos) (tXFld K (tVar i) f) := by
  subst hK
  exact pe_xfld (pv i hN hv hd hcd) hb
end L2
namespace L2
open PySem PySem.Spec PyProof.Rows
section
variable {X : Cx} {pn : List (Addr × Obj)}
def tMakeU (C : Addr) (sp : Sp) (gV : List V → List V → List V) (W : St → Value → Option Addr → Hp → Prop) (t tk : TA) : TE := fun σ H Q => t σ H fun vs H1 => tk σ H1 fun zs H2 => ∀ x dx, H2 x = none → H2 dx = none → dx ≠ x → sp (gV (.ref x :: vs) zs) (upd (upd H2 dx (.own x)) x (.ins C dx [])) (fun v H3 => v = .non ∧ Q (.ref x) H3) fun cls dd H' => W σ cls dd H'
theorem pe_makeU {W : St → Value → Option Addr → Hp → Prop} {k : Nat} {f C : Addr} {fd : FuncData} {ps ks : List Str} {sp : Sp} {g : List Value → List Value → List Value} {gV : List V → List V → List V} {x : Str} {p pos : Pos} {e : Expr} {es : List Expr} {kws : List Keyword} {t tk : TA}
    (M : Mk X.K C f) (F : FnOk X.prog X.w X.K X.mg X.base (CX2 X.prog X.w) k f fd ps sp) (hr : Room (k + 1) X.A) (hg : Gl X x) (hm : X.mg x = some (.ref C)) (hb : KBinds X.K fd ps ks g gV)
    (ha : PA (tryCy X pn W) (e :: es) t) (hkw : PK (tryCy X pn W) kws tk) (hall : (backToKw pos (keywordEach kws X.env)).all (·.1.isSome) = true := by rfl) (hks : (backToKw pos (keywordEach kws X.env)).filterMap (·.1) = ks := by rfl)
    (hdb : (x == ("__debug__" : Str)) = false := by decide) (he : starEach (e :: es) X.env = (false, eval e X.env) :: starEach es X.env := by rfl)
    (hpl : ((backTo pos (starEach (e :: es) X.env)).any (·.1) || (backToKw pos (keywordEach kws X.env)).any (·.1.isNone)) = false := by rfl) :
    PE (tryCy X pn W) (.Call (.Name x p) (e :: es) kws pos) (tMakeU C sp gV W t tk) := by
  intro pins s σ H Q I h
  refine wpAny_Call_Name_kw (ld_glob I hg hm ?_ hdb)
  refine PySem.W.callWith_KW (h₀ := X.base) I.ok.mod.kin M.kp hall (thn (ha pos pins s σ H _ I h) fun us s1 ⟨vs, H1, I1, r, q⟩ => ?_) hpl he
  refine thn (hkw pos pins s1 σ H1 _ I1 q) fun ws s2 ⟨zs, H2, I2, rz, q2⟩ => ⟨I2.kIn, ?_⟩
  subst hks
  have hq := q2 (s2.heap.objs.size + 1) s2.heap.objs.size (I2.hok.fresh (Nat.le_succ _)) (I2.hok.fresh (Nat.le_refl _)) (Nat.ne_of_lt (Nat.lt_succ_self _))
  have I3 := Inv.made (C := C) I2
  have r2 := hb.rel (Paired.cons (show RelV (V.ref (s2.heap.objs.size + 1)) (Value.ref (s2.heap.objs.size + 1)) from rfl) r) rz
  have hl : (g (Value.ref (s2.heap.objs.size + 1) :: us) ws).length = ps.length := by
    rw [← Paired.length r2]
    exact F.len _ _ _ _ hq
  refine wpAny_call (make_map (f := f) I2.kIn M.makes M.init (beq_iff_eq.mp M.fn) (codeAny_mono (F.run _ X.stack _ _ ⟨Value.ref (s2.heap.objs.size + 1) :: us, _⟩ _ _ _ _ (hr.make C us _)
    (I3.env0.make C us _) (hb.to _ _ _ I3.kIn hl) r2 hq) fun r' s' hq' => ?_))
  cases r' with
  | error e => exact try_xe2 I3 e s' hq'
  | ok fl =>
    cases fl with
    | ret u =>
      obtain ⟨v, H', I4, rv, ev, q3⟩ := I3.after hq'
      subst ev
      exact ⟨rv, ⟨V.ref (s2.heap.objs.size + 1), H', I4, rfl, q3⟩⟩
    | next => exact False.elim hq'
    | brk => exact False.elim hq'
    | cont => exact False.elim hq'
end
def tTry1 (K : PySem.W.Frag) (P1 : Addr) (i : Nat) (tb : (St → Value → Option Addr → Hp → Prop) → TS) (ts : TS) : TS := fun D σ H => ∃ W : St → Value → Option Addr → Hp → Prop, tb W D σ H ∧
  ∀ σ' cls dd H' ea, W σ' cls dd H' → H' ea = none → ∃ C, cls = .ref C ∧ PySem.W.kitCls K (.ref C) (.ref P1) = some true ∧ ts (hEnd D i ea cls dd) (σ'.set i (some (.ref ea))) (upd H' ea (ExcO ea cls dd))
section
variable {X : Cx}
theorem ps_tryU {body : List Stmt} {x1 n : Str} {i : Nat} {np1 hp1 pos : Pos} {b1 : Stmt} {su1 : List Stmt} {P1 : Addr} {tb : (St → Value → Option Addr → Hp → Prop) → TS} {ts1 : TS}
    (hstk : X.stack = X.env :: X.outer) (hfr : X.env.frame = some X.env.locals) (hex : X.ex = []) (hg1 : Gl X x1) (hm1 : X.mg x1 = some (.ref P1)) (hB1 : PySem.W.mroIn X.K P1 (.type "BaseException") = some true)
    (hN : X.N.Nodup) (hi : X.N[i]? = some n) (hn : X.env.scope.names.lookup n = some .local)
    (hb : ∀ pn W, PSs (tryCy X pn W) body (tb W)) (hs1 : ∀ ea, PSs (hndCx X ea) (b1 :: su1) ts1) (hd1 : (x1 == ("__debug__" : Str)) = false := by decide) :
    PS X (.Try body [.ExceptHandler (some (.Name x1 np1)) (some n) (b1 :: su1) hp1] [] [] pos) (tTry1 X.K P1 i tb ts1) := by
  intro pins s σ H D I h
  obtain ⟨W, h1, h2⟩ := h
  refine wpAny_Try_except ?_
  have back : ∀ {pins' : List (Addr × Obj)} {σ' : St} {H' : Hp} {s' : Shared}, Inv (tryCy X (X.pn ++ pins) W) pins' σ' H' s' → Inv X pins σ' H' s' := fun J => J.ofTry2.backPn fun _ hp => hp
  refine wpAny_mono (hb (X.pn ++ pins) W pins s σ H D (I.toTry2 fun _ hp => hp) h1) (fun f s1 q => ?_) (fun e s1 q => ?_)
  · cases f with
    | next =>
      obtain ⟨σ1, H1, I1, q⟩ := q
      exact wpAny_execs_nil ⟨σ1, H1, back I1, q⟩
    | brk => obtain ⟨σ1, H1, I1, q⟩ := q; exact ⟨σ1, H1, back I1, q⟩
    | cont => obtain ⟨σ1, H1, I1, q⟩ := q; exact ⟨σ1, H1, back I1, q⟩
    | ret u => obtain ⟨v, σ1, H1, I1, r, q⟩ := q; exact ⟨v, σ1, H1, back I1, r, q⟩
  · obtain ⟨pins', σ', H1, s0, ea, cls, dd, H', rfl, I0, F, ⟨oe, hoe, hdd⟩, wW⟩ := q
    have IX : Inv X pins σ' H1 s0 := I0.backPn fun _ hp => hp
    obtain ⟨B, t, hf, k1, k2⟩ := F.fly
    have hea : H' ea = none := by
      cases q : H' ea with
      | none => rfl
      | some u =>
        obtain ⟨o, e⟩ := (F.hok ea u q).there
        have z := k2 ea u o q e
        rw [hf.2.1] at z
        cases z
    obtain ⟨C, rfl, m1, q1⟩ := h2 σ' cls dd H' ea wW hea
    have frames : X.A.frames = some (X.env :: X.outer) := by rw [IX.ok.frames, hstk]
    have hf' : Heap.FlyingW B (X.env :: X.outer) ea (.ref C) (.ref t) s1.heap := by rw [← hstk]; exact hf
    refine wpAny_mono (wpAny_dk dk_noteFrame (wpAny_looks_onW (E := fun _ _ => False) (Q := fun _ s'' => ∃ h₄, s'' = { s1 with heap := h₄ } ∧ Heap.HeldW B (X.env :: X.outer) ea (.ref C) (.ref t) X.env.locals h₄ ∧ s1.heap.UpToSlots h₄) frames hfr hf' fun h₄ a b => ⟨h₄, rfl, a, b⟩)) (fun _ s'' ⟨⟨h₄, e4, hheld₄, hsm₄⟩, kd4⟩ => ?_) (fun _ _ z => z.1.elim)
    subst e4
    refine wpAny_mono (wpAny_dk dk_setFlight (wpAny_landsW (E := fun _ _ => False) (Q := fun _ s'' => ∃ h₅, s'' = { s1 with heap := h₅ } ∧ Heap.FlyingW B (X.env :: X.outer) ea (.ref C) (.ref t) h₅ ∧ h₄.UpToSlots h₅) hheld₄ fun h₅ a b => ⟨h₅, rfl, a, b⟩)) (fun _ s'' ⟨⟨h₅, e5, hfl₅, hsm₅⟩, kd5⟩ => ?_) (fun _ _ z => z.1.elim)
    subst e5
    have hfl5 : Heap.FlyingW B X.stack ea (.ref C) (.ref t) h₅ := by rw [hstk]; exact hfl₅
    obtain ⟨o4, e4, d4⟩ := kd4 ea oe hoe
    obtain ⟨o5, e5, d5⟩ := kd5 ea o4 e4
    exact hnd_fits hstk hex hg1 hm1 hB1 hN hi hn hs1 hd1 IX F hfl5 (hsm₄.trans hsm₅) k1 k2 hea ⟨o5, e5, (d5.trans d4).trans hdd⟩ m1 q1
end
end L2
namespace L2
open PySem PySem.Spec PyProof.Rows
def kb24 {α : Type} : List α → List α → List α
  | [a, b], [c, d, e, f] => [a, b, c, d, e, f]
  | _, _ => []
theorem kb_rel24 {vs : List V} {us : List Value} {zs : List V} {ws : List Value} (r1 : Vals vs us) (r2 : Vals zs ws) : Vals (kb24 vs zs) (kb24 us ws) := by
  cases r1 with
  | nil => exact .nil
  | cons a r1 =>
    cases r1 with
    | nil => exact .nil
    | cons b r1 =>
      cases r1 with
      | cons _ _ => exact .nil
      | nil =>
        cases r2 with
        | nil => exact .nil
        | cons c r2 =>
          cases r2 with
          | nil => exact .nil
          | cons d r2 =>
            cases r2 with
            | nil => exact .nil
            | cons e r2 =>
              cases r2 with
              | nil => exact .nil
              | cons f r2 =>
                cases r2 with
                | nil => exact .cons a (.cons b (.cons c (.cons d (.cons e (.cons f .nil)))))
                | cons _ _ => exact .nil
theorem dc_range {lo : Int} {n : Nat} {D : Addr} {g : TG} {ti : TT} {tk tv : TE} {σ0 : St} {H0 : Hp} {QF : Hp → Prop} (Pv : Nat → St → Hp → Prop) (h0 : Pv 0 σ0 H0)
    (hs : ∀ i σ H, i < n → Pv i σ H → g (.int (lo + i)) σ H fun σ2 H2 => ti σ2 H2 fun b H3 => if b = true then tk σ2 H3 fun y H4 => tv σ2 H4 fun z H5 => ∃ H6, DPut H5 D y z H6 ∧ Pv (i + 1) σ2 H6 else Pv (i + 1) σ2 H3)
    (hd : ∀ σ H, Pv n σ H → QF H) : ∃ W : Nat → Nat → St → Hp → Prop, (∃ m, W 0 m σ0 H0) ∧ DcW (Itr lo n) g ti tk tv D QF W := by
  refine ⟨fun i m σ H => m = n - i ∧ i ≤ n ∧ Pv i σ H, ⟨n, by simp, Nat.zero_le _, h0⟩, ?_⟩
  rintro i m σ H ⟨rfl, hi, p⟩
  by_cases hlt : i < n
  · refine .inr ⟨hlt, Pv (i + 1), fun σ' H' p' => ⟨n - (i + 1), by omega, rfl, hlt, p'⟩, fun x H' y => ?_⟩
    obtain ⟨e, y⟩ := y
    subst e y
    exact hs i σ _ hlt p
  · have e : i = n := by omega
    subst e
    exact .inl ⟨Nat.le_refl _, hd σ H p⟩
theorem argBest_top (val : Nat → Int) : ∀ k i, i ≤ k → val i ≤ val (argBest (fun i j => decide (val i > val j)) k)
  | 0, i, h => by
    have : i = 0 := by omega
    subst this
    exact Int.le_refl _
  | k + 1, i, h => by
    have ih := argBest_top val k
    unfold argBest
    by_cases z : val (k + 1) > val (argBest (fun i j => decide (val i > val j)) k)
    · rw [if_pos (decide_eq_true z)]
      by_cases q : i = k + 1
      · rw [q]
        exact Int.le_refl _
      · have := ih i (by omega)
        omega
    · rw [if_neg (by simpa using z)]
      by_cases q : i = k + 1
      · rw [q]; omega
      · exact ih i (by omega)
theorem paired_back {α β : Type} {R : α → β → Prop} : ∀ {xs : List α} {ys : List β} {i : Nat} {y : β}, Paired R xs ys → ys[i]? = some y → ∃ x, xs[i]? = some x ∧ R x y
  | _, _, i, y, .nil, e => by simp at e
  | _, _, 0, y, .cons h _, e => by
    cases Option.some.inj e
    exact ⟨_, rfl, h⟩
  | _, _, i + 1, y, .cons _ t, e => paired_back (i := i) t e
section
variable {X : Cx}
theorem call_maxL (hc : X.calm = true) : CallR X (.builtin "max") (fun xs H Q => ∃ (p : Addr) (ns : List Int), xs = [.ref p] ∧ SqL X.K H p (ns.map V.int) ∧ 0 < ns.length ∧ ∀ M, M ∈ ns → (∀ a ∈ ns, a ≤ M) → Q (.int M) H) := by
  intro pins s σ H xs us Q I r h
  obtain ⟨p, ns, rfl, hq, hne, q⟩ := h
  obtain ⟨u, rfl, rx⟩ := vals1 r
  cases rx
  obtain ⟨its, r', pl, hz⟩ := I.list hq
  have hlen : ns.length = its.length := by have := r'.length; rw [List.length_map] at this; exact this
  have hv : ∀ i v, its.toArray[i]? = some v → ∃ t, v = Value.int (ns.getD i 0) t := fun i v e => by
    have e' : its[i]? = some v := by simpa using e
    obtain ⟨y, ey, ry⟩ := paired_back r' e'
    rw [List.getElem?_map] at ey
    cases hn : ns[i]? with
    | none => rw [hn] at ey; cases ey
    | some n =>
      rw [hn] at ey
      cases ey
      obtain ⟨t, et⟩ := ry
      refine ⟨t, ?_⟩
      rw [et, List.getD_eq_getElem?_getD, hn]
      rfl
  have hp : p ≠ s.heap.objs.size := by
    obtain ⟨o, ho, _⟩ := pl.isList
    exact Nat.ne_of_lt (Heap.lt_size ho)
  refine call_max_walk (wpAny_pyIter_list pl.isList ⟨s.heap.objs.size, _, _, _, _, _, _, rfl, Walks.list (A := X.A.in1) (show X.A.in1.handled = none from I.ok.hd hc) s.heap.objs.size p hp its.toArray, ⟨⟨_, Heap.get?_push_size _ rfl, rfl, rfl⟩, ?_⟩, fun b hb => ?_, by simpa using (by omega : 0 < its.length), CmpOf.ints_gt (fun i => ns.getD i 0) hv, fun v h' tk hP hk => ?_⟩)
  · obtain ⟨o, ho, hr⟩ := pl.isList
    exact ⟨o, Heap.get?_push_of_some _ ho, hr⟩
  · rw [Heap.size_push]
    rcases List.mem_cons.mp hb with rfl | hb
    · exact Nat.lt_succ_self _
    · rw [List.mem_singleton.mp hb]
      obtain ⟨o, ho, _⟩ := pl.isList
      exact Nat.lt_succ_of_lt (Heap.lt_size ho)
  · obtain ⟨t, rfl⟩ := hv _ _ hP
    refine ⟨V.int (ns.getD (argBest (fun i j => decide (ns.getD i 0 > ns.getD j 0)) (its.toArray.size - 1)) 0), H, I.kept (t' := tk) fun b o e => hk b o (fun z => ?_) (Heap.get?_push_of_some _ e), ⟨t, rfl⟩, q _ ?_ fun a ha => ?_⟩
    · have : b = s.heap.objs.size := by simpa using z
      have lt := Heap.lt_size e
      rw [this] at lt
      exact Nat.lt_irrefl _ lt
    · have hb := argBest_le (fun i j => decide (ns.getD i 0 > ns.getD j 0)) (its.toArray.size - 1)
      have hs : its.toArray.size = its.length := by simp
      generalize argBest (fun i j => decide (ns.getD i 0 > ns.getD j 0)) (its.toArray.size - 1) = j at hb
      have hj : j < ns.length := by omega
      rw [List.getD_eq_getElem?_getD, List.getElem?_eq_getElem hj]
      exact List.getElem_mem hj
    · obtain ⟨i, hi, rfl⟩ := List.mem_iff_getElem.mp ha
      have := argBest_top (fun i => ns.getD i 0) (its.toArray.size - 1) i (by simp; omega)
      rw [show ns.getD i 0 = ns[i] by rw [List.getD_eq_getElem?_getD, List.getElem?_eq_getElem hi]; rfl] at this
      exact this
end
structure ClsM (K : PySem.W.Frag) (C : Addr) (m : Str) (f : Addr) : Prop where
  sp : PySem.W.specialIn K (.ref C) "__getattribute__" = some (some (.builtin "type.__getattribute__"))
  rd : PySem.W.readsIn K C (.type "type") = true
  at_ : PySem.W.findCls K (.ref C) (.type "type") m = some (.val (.ref f))
  kp : PySem.W.keepIn K (.ref f) = true
section
variable {X : Cx} {CX : CXT} {E : XK} {k : Nat} {f C : Addr} {fd : FuncData} {ps : List Str} {sp : Sp} {dvs : List V} {ds : List Value} {x m : Str} {p apos pos : Pos} {e : Expr} {es : List Expr} {t : TA}
theorem pe_clsM {pl : Sem Bool} (hg : Gl X x) (hC : X.mg x = some (.ref C)) (hm : ClsM X.K C m f) (F : FnOk X.prog X.w X.K X.mg X.base CX k f fd ps sp) (hr : Room k X.A) (hb : Binds X.K fd ps ds) (hd : Vals dvs ds) (hx : Passes CX X E) (ha : PA X (e :: es) t)
    (hdb : (x == ("__debug__" : Str)) = false := by decide) (hst : starEach (e :: es) X.env = (false, eval e X.env) :: starEach es X.env := by rfl) (hpl : (backTo pos (starEach es X.env)).any (·.1) = false := by rfl)
    (ht : eval (.Call (.Attribute (.Name x p) m apos) (e :: es) [] pos) X.env = (do
      let ov ← eval (.Name x p) X.env
      standAt apos.atName
      let (f, first) ← holding [ov] (getMethod ov m pl)
      callWith pos f first (backTo pos (starEach (e :: es) X.env)) (backToKw pos (keywordEach [] X.env))) := by rfl) :
    PE X (.Call (.Attribute (.Name x p) m apos) (e :: es) [] pos) (tCall sp dvs E t) := by
  intro pins s σ H Q I h
  refine PySem.W.methodCall_KW (pl := pl) (thn (ld_glob (Q := EP X pins σ fun v H' => v = V.ref C ∧ H' = H) I hg hC ⟨V.ref C, H, I, rfl, rfl, rfl⟩ hdb) fun u s1 ⟨y, H1, I1, ry, ey, eH⟩ => ?_) ht
  subst ey eH
  obtain rfl : u = Value.ref C := ry
  refine PySem.W.method_cls I1.kIn hm.sp (PySem.W.cls_value I1.kIn hm.rd hm.at_ rfl ?_)
  have I2 := I1.tok (s1.toks + 1)
  refine PySem.W.callWith_K (first := []) (h₀ := X.base) I.ok.mod.kin hm.kp (thn (ha pos pins _ σ H1 _ I2 h) fun us s2 ⟨vs, H2, I3, r, q2⟩ => ⟨I3.kIn, ?_⟩) hst hpl
  exact run_fn F hr hb hd hx I3 r q2
end
def tTry3 (K : PySem.W.Frag) (P1 P2 P3 : Addr) (i : Nat) (tb : (St → Value → Option Addr → Hp → Prop) → TS) (ts1 ts2 ts3 : TS) : TS := fun D σ H => ∃ W : St → Value → Option Addr → Hp → Prop, tb W D σ H ∧
  ∀ σ' cls dd H' ea, W σ' cls dd H' → H' ea = none → ∃ C, cls = .ref C ∧
    ((PySem.W.kitCls K (.ref C) (.ref P1) = some true ∧ ts1 (hEnd D i ea cls dd) (σ'.set i (some (.ref ea))) (upd H' ea (ExcO ea cls dd))) ∨
     (PySem.W.kitCls K (.ref C) (.ref P1) = some false ∧ PySem.W.kitCls K (.ref C) (.ref P2) = some true ∧ ts2 (hEnd D i ea cls dd) (σ'.set i (some (.ref ea))) (upd H' ea (ExcO ea cls dd))) ∨
     (PySem.W.kitCls K (.ref C) (.ref P1) = some false ∧ PySem.W.kitCls K (.ref C) (.ref P2) = some false ∧ PySem.W.kitCls K (.ref C) (.ref P3) = some true ∧ ts3 (hEnd D i ea cls dd) (σ'.set i (some (.ref ea))) (upd H' ea (ExcO ea cls dd))))
section
variable {X : Cx}
theorem ps_try3 {body : List Stmt} {x1 x2 x3 n : Str} {i : Nat} {np1 np2 np3 hp1 hp2 hp3 pos : Pos} {b1 b2 b3 : Stmt} {su1 su2 su3 : List Stmt} {P1 P2 P3 : Addr} {tb : (St → Value → Option Addr → Hp → Prop) → TS} {ts1 ts2 ts3 : TS}
    (hstk : X.stack = X.env :: X.outer) (hfr : X.env.frame = some X.env.locals) (hex : X.ex = []) (hg1 : Gl X x1) (hm1 : X.mg x1 = some (.ref P1)) (hB1 : PySem.W.mroIn X.K P1 (.type "BaseException") = some true)
    (hg2 : Gl X x2) (hm2 : X.mg x2 = some (.ref P2)) (hB2 : PySem.W.mroIn X.K P2 (.type "BaseException") = some true) (hg3 : Gl X x3) (hm3 : X.mg x3 = some (.ref P3)) (hB3 : PySem.W.mroIn X.K P3 (.type "BaseException") = some true) (hN : X.N.Nodup) (hi : X.N[i]? = some n) (hn : X.env.scope.names.lookup n = some .local)
    (hb : ∀ pn W, PSs (tryCy X pn W) body (tb W)) (hs1 : ∀ ea, PSs (hndCx X ea) (b1 :: su1) ts1) (hs2 : ∀ ea, PSs (hndCx X ea) (b2 :: su2) ts2) (hs3 : ∀ ea, PSs (hndCx X ea) (b3 :: su3) ts3) (hd1 : (x1 == ("__debug__" : Str)) = false := by decide) (hd2 : (x2 == ("__debug__" : Str)) = false := by decide) (hd3 : (x3 == ("__debug__" : Str)) = false := by decide) :
    PS X (.Try body [.ExceptHandler (some (.Name x1 np1)) (some n) (b1 :: su1) hp1, .ExceptHandler (some (.Name x2 np2)) (some n) (b2 :: su2) hp2, .ExceptHandler (some (.Name x3 np3)) (some n) (b3 :: su3) hp3] [] [] pos) (tTry3 X.K P1 P2 P3 i tb ts1 ts2 ts3) := by
  intro pins s σ H D I h
  obtain ⟨W, h1, h2⟩ := h
  refine wpAny_Try_except ?_
  have back : ∀ {pins' : List (Addr × Obj)} {σ' : St} {H' : Hp} {s' : Shared}, Inv (tryCy X (X.pn ++ pins) W) pins' σ' H' s' → Inv X pins σ' H' s' := fun J => J.ofTry2.backPn fun _ hp => hp
  refine wpAny_mono (hb (X.pn ++ pins) W pins s σ H D (I.toTry2 fun _ hp => hp) h1) (fun f s1 q => ?_) (fun e s1 q => ?_)
  · cases f with
    | next =>
      obtain ⟨σ1, H1, I1, q⟩ := q
      exact wpAny_execs_nil ⟨σ1, H1, back I1, q⟩
    | brk => obtain ⟨σ1, H1, I1, q⟩ := q; exact ⟨σ1, H1, back I1, q⟩
    | cont => obtain ⟨σ1, H1, I1, q⟩ := q; exact ⟨σ1, H1, back I1, q⟩
    | ret u => obtain ⟨v, σ1, H1, I1, r, q⟩ := q; exact ⟨v, σ1, H1, back I1, r, q⟩
  · obtain ⟨pins', σ', H1, s0, ea, cls, dd, H', rfl, I0, F, ⟨oe, hoe, hdd⟩, wW⟩ := q
    have IX : Inv X pins σ' H1 s0 := I0.backPn fun _ hp => hp
    obtain ⟨B, t, hf, k1, k2⟩ := F.fly
    have hea : H' ea = none := by
      cases q : H' ea with
      | none => rfl
      | some u =>
        obtain ⟨o, e⟩ := (F.hok ea u q).there
        have z := k2 ea u o q e
        rw [hf.2.1] at z
        cases z
    obtain ⟨C, rfl, hts⟩ := h2 σ' cls dd H' ea wW hea
    have frames : X.A.frames = some (X.env :: X.outer) := by rw [IX.ok.frames, hstk]
    have hf' : Heap.FlyingW B (X.env :: X.outer) ea (.ref C) (.ref t) s1.heap := by rw [← hstk]; exact hf
    refine wpAny_mono (wpAny_dk dk_noteFrame (wpAny_looks_onW (E := fun _ _ => False) (Q := fun _ s'' => ∃ h₄, s'' = { s1 with heap := h₄ } ∧ Heap.HeldW B (X.env :: X.outer) ea (.ref C) (.ref t) X.env.locals h₄ ∧ s1.heap.UpToSlots h₄) frames hfr hf' fun h₄ a b => ⟨h₄, rfl, a, b⟩)) (fun _ s'' ⟨⟨h₄, e4, hheld₄, hsm₄⟩, kd4⟩ => ?_) (fun _ _ z => z.1.elim)
    subst e4
    refine wpAny_mono (wpAny_dk dk_setFlight (wpAny_landsW (E := fun _ _ => False) (Q := fun _ s'' => ∃ h₅, s'' = { s1 with heap := h₅ } ∧ Heap.FlyingW B (X.env :: X.outer) ea (.ref C) (.ref t) h₅ ∧ h₄.UpToSlots h₅) hheld₄ fun h₅ a b => ⟨h₅, rfl, a, b⟩)) (fun _ s'' ⟨⟨h₅, e5, hfl₅, hsm₅⟩, kd5⟩ => ?_) (fun _ _ z => z.1.elim)
    subst e5
    have hfl5 : Heap.FlyingW B X.stack ea (.ref C) (.ref t) h₅ := by rw [hstk]; exact hfl₅
    have hd5 : ∃ oe, h₅.get? ea = some oe ∧ oe.dict = dd := by
      obtain ⟨o4, e4, d4⟩ := kd4 ea oe hoe
      obtain ⟨o5, e5, d5⟩ := kd5 ea o4 e4
      exact ⟨o5, e5, (d5.trans d4).trans hdd⟩
    have I5 : Inv X pins σ' H' { s1 with heap := h₅ } := fly_here IX F hfl5 (hsm₄.trans hsm₅) k1 k2
    obtain ⟨oe5, ve5, hoe5, hoec5, hoed5, _⟩ := hfl5.first
    rcases hts with ⟨m1, q1⟩ | ⟨m1, m2, q2⟩ | ⟨m1, m2, m3, q3⟩
    · exact hnd_fits hstk hex hg1 hm1 hB1 hN hi hn hs1 hd1 IX F hfl5 (hsm₄.trans hsm₅) k1 k2 hea hd5 m1 q1
    · refine wpAny_handleBy_cons (codeAny_handlers_test (Calls.Name_function_global I5.ok.kind hg1 (Calls.loadGlobal_global (by rw [I5.ok.glob]; exact I5.mod.glob.keeps I5.bk) hm1 ?_) hd1)) (by intro q; cases q)
      refine looks_exc (K := X.K) (h := h₅) I5.kIn hoe5 hoec5 m1 hB1 _ _ _ _ (fun _ _ q => q) ?_
      exact hnd_fits hstk hex hg2 hm2 hB2 hN hi hn hs2 hd2 IX F hfl5 (hsm₄.trans hsm₅) k1 k2 hea hd5 m2 q2
    · refine wpAny_handleBy_cons (codeAny_handlers_test (Calls.Name_function_global I5.ok.kind hg1 (Calls.loadGlobal_global (by rw [I5.ok.glob]; exact I5.mod.glob.keeps I5.bk) hm1 ?_) hd1)) (by intro q; cases q)
      refine looks_exc (K := X.K) (h := h₅) I5.kIn hoe5 hoec5 m1 hB1 _ _ _ _ (fun _ _ q => q) ?_
      refine wpAny_handleBy_cons (codeAny_handlers_test (Calls.Name_function_global I5.ok.kind hg2 (Calls.loadGlobal_global (by rw [I5.ok.glob]; exact I5.mod.glob.keeps I5.bk) hm2 ?_) hd2)) (by intro q; cases q)
      refine looks_exc (K := X.K) (h := h₅) I5.kIn hoe5 hoec5 m2 hB2 _ _ _ _ (fun _ _ q => q) ?_
      exact hnd_fits hstk hex hg3 hm3 hB3 hN hi hn hs3 hd3 IX F hfl5 (hsm₄.trans hsm₅) k1 k2 hea hd5 m3 q3
end
end L2
namespace L2
open PySem PySem.Spec PyProof.Rows
end L2
set_option Elab.async false
set_option linter.all false
set_option maxRecDepth 100000
namespace M
structure O where
  p : Int
  n : Int
  g : Int
  m : Int
  deriving DecidableEq
end M
namespace M
open PySem L2
theorem zs0 : 0 ≤ sizeLine := by decide
theorem zs1 : 1 ≤ sizeLine := by decide
theorem zs2 : 2 ≤ sizeLine := by decide
theorem zs3 : 3 ≤ sizeLine := by decide
theorem zs4 : 4 ≤ sizeLine := by decide
theorem zs5 : 5 ≤ sizeLine := by decide
theorem zs6 : 6 ≤ sizeLine := by decide
theorem zs9 : 9 ≤ sizeLine := by decide
theorem zs11 : 11 ≤ sizeLine := by decide
theorem pa_2 {X : Cx} {e0 e1 : Expr} {t0 t1 : TE} (h0 : PE X e0 t0) (h1 : PE X e1 t1) (s0 : isStar e0 = false := by rfl) (s1 : isStar e1 = false := by rfl) : PA X [e0, e1] (tCons t0 (tCons t1 tNil)) := by
  refine pa_more h0 ?_ s0
  refine pa_more h1 ?_ s1
  exact pa_nil
theorem pa_3 {X : Cx} {e0 e1 e2 : Expr} {t0 t1 t2 : TE} (h0 : PE X e0 t0) (h1 : PE X e1 t1) (h2 : PE X e2 t2) (s0 : isStar e0 = false := by rfl) (s1 : isStar e1 = false := by rfl) (s2 : isStar e2 = false := by rfl) : PA X [e0, e1, e2] (tCons t0 (tCons t1 (tCons t2 tNil))) := by
  refine pa_more h0 ?_ s0
  refine pa_more h1 ?_ s1
  refine pa_more h2 ?_ s2
  exact pa_nil
theorem pa_4 {X : Cx} {e0 e1 e2 e3 : Expr} {t0 t1 t2 t3 : TE} (h0 : PE X e0 t0) (h1 : PE X e1 t1) (h2 : PE X e2 t2) (h3 : PE X e3 t3) (s0 : isStar e0 = false := by rfl) (s1 : isStar e1 = false := by rfl) (s2 : isStar e2 = false := by rfl) (s3 : isStar e3 = false := by rfl) : PA X [e0, e1, e2, e3] (tCons t0 (tCons t1 (tCons t2 (tCons t3 tNil)))) := by
  refine pa_more h0 ?_ s0
  refine pa_more h1 ?_ s1
  refine pa_more h2 ?_ s2
  refine pa_more h3 ?_ s3
  exact pa_nil
theorem pa_5 {X : Cx} {e0 e1 e2 e3 e4 : Expr} {t0 t1 t2 t3 t4 : TE} (h0 : PE X e0 t0) (h1 : PE X e1 t1) (h2 : PE X e2 t2) (h3 : PE X e3 t3) (h4 : PE X e4 t4) (s0 : isStar e0 = false := by rfl) (s1 : isStar e1 = false := by rfl) (s2 : isStar e2 = false := by rfl) (s3 : isStar e3 = false := by rfl) (s4 : isStar e4 = false := by rfl) : PA X [e0, e1, e2, e3, e4] (tCons t0 (tCons t1 (tCons t2 (tCons t3 (tCons t4 tNil))))) := by
  refine pa_more h0 ?_ s0
  refine pa_more h1 ?_ s1
  refine pa_more h2 ?_ s2
  refine pa_more h3 ?_ s3
  refine pa_more h4 ?_ s4
  exact pa_nil
theorem pa_6 {X : Cx} {e0 e1 e2 e3 e4 e5 : Expr} {t0 t1 t2 t3 t4 t5 : TE} (h0 : PE X e0 t0) (h1 : PE X e1 t1) (h2 : PE X e2 t2) (h3 : PE X e3 t3) (h4 : PE X e4 t4) (h5 : PE X e5 t5) (s0 : isStar e0 = false := by rfl) (s1 : isStar e1 = false := by rfl) (s2 : isStar e2 = false := by rfl) (s3 : isStar e3 = false := by rfl) (s4 : isStar e4 = false := by rfl) (s5 : isStar e5 = false := by rfl) : PA X [e0, e1, e2, e3, e4, e5] (tCons t0 (tCons t1 (tCons t2 (tCons t3 (tCons t4 (tCons t5 tNil)))))) := by
  refine pa_more h0 ?_ s0
  refine pa_more h1 ?_ s1
  refine pa_more h2 ?_ s2
  refine pa_more h3 ?_ s3
  refine pa_more h4 ?_ s4
  refine pa_more h5 ?_ s5
  exact pa_nil
def top (i : Nat) : Stmt := PySem.Challenge.pw_manypurses_k14_worlds_refused.main.body.getD i (.Pass ⟨0, 0, 0, 0⟩)
abbrev s_is_whole : Stmt := top 2
abbrev s_is_between : Stmt := top 3
abbrev s_is_order : Stmt := top 30
abbrev s_are_rising : Stmt := top 4
abbrev s_is_rising_row : Stmt := top 5
abbrev s_is_house_count : Stmt := top 9
abbrev s_is_few : Stmt := top 10
abbrev s_outnumber : Stmt := top 11
abbrev s_enough_of : Stmt := top 12
abbrev s_are_sums : Stmt := top 41
abbrev s_are_first_sums : Stmt := top 42
abbrev s_NoPurse___init__ : Stmt := inClass (top 19) 0
abbrev s_NoHouse___init__ : Stmt := inClass (top 18) 0
abbrev s_check_houses : Stmt := top 46
abbrev s_check_purses : Stmt := top 47
abbrev s_Board___init__ : Stmt := inClass (top 33) 0
abbrev s_Board_is_carried : Stmt := inClass (top 33) 4
abbrev s_Book___init__ : Stmt := inClass (top 35) 0
abbrev s_Book_is_past : Stmt := inClass (top 35) 1
abbrev s_Keeper___init__ : Stmt := inClass (top 37) 0
abbrev s_Keeper_left_of : Stmt := inClass (top 37) 2
abbrev s_World___init__ : Stmt := inClass (top 48) 0
abbrev s_World_write_to_all : Stmt := inClass (top 48) 19
abbrev s_World_letters : Stmt := inClass (top 48) 7
abbrev s_World_keeper_of : Stmt := inClass (top 48) 20
abbrev s_World_check_liar : Stmt := inClass (top 48) 21
abbrev s_World_check_purse : Stmt := inClass (top 48) 22
abbrev s_World_check_asker : Stmt := inClass (top 48) 23
abbrev s_World_check_order : Stmt := inClass (top 48) 24
abbrev s_World_next_number : Stmt := inClass (top 48) 2
abbrev s_World_ask : Stmt := inClass (top 48) 3
abbrev s_World_cheat : Stmt := inClass (top 48) 4
abbrev s_World_lie : Stmt := inClass (top 48) 5
abbrev s_World_show : Stmt := inClass (top 48) 6
abbrev s_World_come : Stmt := inClass (top 48) 8
abbrev s_World_sums : Stmt := inClass (top 48) 9
abbrev s_World_voted : Stmt := inClass (top 48) 12
abbrev s_World_paper : Stmt := inClass (top 48) 15
abbrev s__law_town : Stmt := top 50
abbrev s__law_draw : Stmt := top 51
abbrev s__law_pick : Stmt := top 52
abbrev s__law_refusal : Stmt := top 53
abbrev s__law_made : Stmt := top 54
abbrev s__law_did : Stmt := top 55
abbrev s__law_asked : Stmt := top 56
abbrev s__law_not_made : Stmt := top 57
abbrev s__law_bad_ones : Stmt := top 58
abbrev s_law : Stmt := top 59
theorem sc_is_whole : FnScope ["thing"] ["thing"] (defScope s_is_whole) := ⟨rfl, rfl, rfl, by decide +kernel, rfl, by decide +kernel, by decide +kernel⟩
theorem sc_is_between : FnScope ["thing", "low", "high"] ["thing", "low", "high"] (defScope s_is_between) := ⟨rfl, rfl, rfl, by decide +kernel, rfl, by decide +kernel, by decide +kernel⟩
theorem sc_is_order : FnScope ["thing", "purses", "purse", "number", "goal", "much"] ["thing", "purses"] (defScope s_is_order) := ⟨rfl, rfl, rfl, by decide +kernel, rfl, by decide +kernel, by decide +kernel⟩
theorem sc_are_rising : FnScope ["things", "bound", "least", "thing"] ["things", "bound"] (defScope s_are_rising) := ⟨rfl, rfl, rfl, by decide +kernel, rfl, by decide +kernel, by decide +kernel⟩
theorem sc_is_rising_row : FnScope ["thing", "bound"] ["thing", "bound"] (defScope s_is_rising_row) := ⟨rfl, rfl, rfl, by decide +kernel, rfl, by decide +kernel, by decide +kernel⟩
theorem sc_is_house_count : FnScope ["thing"] ["thing"] (defScope s_is_house_count) := ⟨rfl, rfl, rfl, by decide +kernel, rfl, by decide +kernel, by decide +kernel⟩
theorem sc_is_few : FnScope ["thing"] ["thing"] (defScope s_is_few) := ⟨rfl, rfl, rfl, by decide +kernel, rfl, by decide +kernel, by decide +kernel⟩
theorem sc_outnumber : FnScope ["houses", "few"] ["houses", "few"] (defScope s_outnumber) := ⟨rfl, rfl, rfl, by decide +kernel, rfl, by decide +kernel, by decide +kernel⟩
theorem sc_enough_of : FnScope ["houses", "few"] ["houses", "few"] (defScope s_enough_of) := ⟨rfl, rfl, rfl, by decide +kernel, rfl, by decide +kernel, by decide +kernel⟩
theorem sc_are_sums : FnScope ["thing"] ["thing"] (defScope s_are_sums) := ⟨rfl, rfl, rfl, by decide +kernel, rfl, by decide +kernel, by decide +kernel⟩
theorem sc_are_first_sums : FnScope ["thing"] ["thing"] (defScope s_are_first_sums) := ⟨rfl, rfl, rfl, by decide +kernel, rfl, by decide +kernel, by decide +kernel⟩
theorem sc_NoPurse___init__ : FnScope ["self", "purse"] ["self", "purse"] (defScope s_NoPurse___init__) := ⟨rfl, rfl, rfl, by decide +kernel, rfl, by decide +kernel, by decide +kernel⟩
theorem sc_NoHouse___init__ : FnScope ["self", "house"] ["self", "house"] (defScope s_NoHouse___init__) := ⟨rfl, rfl, rfl, by decide +kernel, rfl, by decide +kernel, by decide +kernel⟩
theorem sc_check_houses : FnScope ["houses", "few", "liars"] ["houses", "few", "liars"] (defScope s_check_houses) := ⟨rfl, rfl, rfl, by decide +kernel, rfl, by decide +kernel, by decide +kernel⟩
theorem sc_check_purses : FnScope ["sums", "cheats"] ["sums", "cheats"] (defScope s_check_purses) := ⟨rfl, rfl, rfl, by decide +kernel, rfl, by decide +kernel, by decide +kernel⟩
theorem sc_Board___init__ : FnScope ["self", "enough"] ["self", "enough"] (defScope s_Board___init__) := ⟨rfl, rfl, rfl, by decide +kernel, rfl, by decide +kernel, by decide +kernel⟩
theorem sc_Board_is_carried : FnScope ["self", "thing"] ["self", "thing"] (defScope s_Board_is_carried) := ⟨rfl, rfl, rfl, by decide +kernel, rfl, by decide +kernel, by decide +kernel⟩
theorem sc_Book___init__ : FnScope ["self", "sums"] ["self", "sums"] (defScope s_Book___init__) := ⟨rfl, rfl, rfl, by decide +kernel, rfl, by decide +kernel, by decide +kernel⟩
theorem sc_Book_is_past : FnScope ["self", "order"] ["self", "order"] (defScope s_Book_is_past) := ⟨rfl, rfl, rfl, by decide +kernel, rfl, by decide +kernel, by decide +kernel⟩
theorem sc_Keeper___init__ : FnScope ["self", "sums"] ["self", "sums"] (defScope s_Keeper___init__) := ⟨rfl, rfl, rfl, by decide +kernel, rfl, by decide +kernel, by decide +kernel⟩
theorem sc_Keeper_left_of : FnScope ["self", "purse", "orders"] ["self", "purse", "orders"] (defScope s_Keeper_left_of) := ⟨rfl, rfl, rfl, by decide +kernel, rfl, by decide +kernel, by decide +kernel⟩
theorem sc_World___init__ : FnScope ["self", "houses", "few", "sums", "liars", "cheats"] ["self", "houses", "few", "sums", "liars", "cheats"] (defScope s_World___init__) := ⟨rfl, rfl, rfl, by decide +kernel, rfl, by decide +kernel, by decide +kernel⟩
theorem sc_World_write_to_all : FnScope ["self", "word", "order", "house"] ["self", "word", "order"] (defScope s_World_write_to_all) := ⟨rfl, rfl, rfl, by decide +kernel, rfl, by decide +kernel, by decide +kernel⟩
theorem sc_World_letters : FnScope ["self"] ["self"] (defScope s_World_letters) := ⟨rfl, rfl, rfl, by decide +kernel, rfl, by decide +kernel, by decide +kernel⟩
theorem sc_World_keeper_of : FnScope ["self", "house"] ["self", "house"] (defScope s_World_keeper_of) := ⟨rfl, rfl, rfl, by decide +kernel, rfl, by decide +kernel, by decide +kernel⟩
theorem sc_World_check_liar : FnScope ["self", "liar"] ["self", "liar"] (defScope s_World_check_liar) := ⟨rfl, rfl, rfl, by decide +kernel, rfl, by decide +kernel, by decide +kernel⟩
theorem sc_World_check_purse : FnScope ["self", "purse"] ["self", "purse"] (defScope s_World_check_purse) := ⟨rfl, rfl, rfl, by decide +kernel, rfl, by decide +kernel, by decide +kernel⟩
theorem sc_World_check_asker : FnScope ["self", "purse", "goal"] ["self", "purse", "goal"] (defScope s_World_check_asker) := ⟨rfl, rfl, rfl, by decide +kernel, rfl, by decide +kernel, by decide +kernel⟩
theorem sc_World_check_order : FnScope ["self", "order"] ["self", "order"] (defScope s_World_check_order) := ⟨rfl, rfl, rfl, by decide +kernel, rfl, by decide +kernel, by decide +kernel⟩
theorem sc_World_next_number : FnScope ["self", "purse"] ["self", "purse"] (defScope s_World_next_number) := ⟨rfl, rfl, rfl, by decide +kernel, rfl, by decide +kernel, by decide +kernel⟩
theorem sc_World_ask : FnScope ["self", "purse", "goal", "much", "asked", "order"] ["self", "purse", "goal", "much"] (defScope s_World_ask) := ⟨rfl, rfl, rfl, by decide +kernel, rfl, by decide +kernel, by decide +kernel⟩
theorem sc_World_cheat : FnScope ["self", "order", "house"] ["self", "order", "house"] (defScope s_World_cheat) := ⟨rfl, rfl, rfl, by decide +kernel, rfl, by decide +kernel, by decide +kernel⟩
theorem sc_World_lie : FnScope ["self", "liar", "order"] ["self", "liar", "order"] (defScope s_World_lie) := ⟨rfl, rfl, rfl, by decide +kernel, rfl, by decide +kernel, by decide +kernel⟩
theorem sc_World_show : FnScope ["self", "order", "house"] ["self", "order", "house"] (defScope s_World_show) := ⟨rfl, rfl, rfl, by decide +kernel, rfl, by decide +kernel, by decide +kernel⟩
theorem sc_World_come : FnScope ["self", "at", "letter", "word", "house", "order", "keeper"] ["self", "at"] (defScope s_World_come) := ⟨rfl, rfl, rfl, by decide +kernel, rfl, by decide +kernel, by decide +kernel⟩
theorem sc_World_sums : FnScope ["self", "house"] ["self", "house"] (defScope s_World_sums) := ⟨rfl, rfl, rfl, by decide +kernel, rfl, by decide +kernel, by decide +kernel⟩
theorem sc_World_voted : FnScope ["self", "house", "purse", "number", "keeper"] ["self", "house", "purse", "number"] (defScope s_World_voted) := ⟨rfl, rfl, rfl, by decide +kernel, rfl, by decide +kernel, by decide +kernel⟩
theorem sc_World_paper : FnScope ["self", "order"] ["self", "order"] (defScope s_World_paper) := ⟨rfl, rfl, rfl, by decide +kernel, rfl, by decide +kernel, by decide +kernel⟩
theorem sc__law_town : FnScope ["_law_script"] ["_law_script"] (defScope s__law_town) := ⟨rfl, rfl, rfl, by decide +kernel, rfl, by decide +kernel, by decide +kernel⟩
theorem sc__law_draw : FnScope ["_law_town_here", "_law_many", "_law_row", "_law_at", "_law_cell", "_law_mixed"] ["_law_town_here", "_law_many"] (defScope s__law_draw) := ⟨rfl, rfl, rfl, by decide +kernel, rfl, by decide +kernel, by decide +kernel⟩
theorem sc__law_pick : FnScope ["_law_town_here", "_law_some"] ["_law_town_here", "_law_some"] (defScope s__law_pick) := ⟨rfl, rfl, rfl, by decide +kernel, rfl, by decide +kernel, by decide +kernel⟩
theorem sc__law_refusal : FnScope ["_law_caught", "_law_kinds", "_law_words"] ["_law_caught"] (defScope s__law_refusal) := ⟨rfl, rfl, rfl, by decide +kernel, rfl, by decide +kernel, by decide +kernel⟩
theorem sc__law_made : FnScope ["_law_crew", "_law_some", "_law_begin", "_law_foes", "_law_rogues", "_law_caught", "e"] ["_law_crew", "_law_some", "_law_begin", "_law_foes", "_law_rogues"] (defScope s__law_made) := ⟨rfl, rfl, rfl, by decide +kernel, rfl, by decide +kernel, by decide +kernel⟩
theorem sc__law_did : FnScope ["_law_world", "_law_kind", "_law_one", "_law_two", "_law_three"] ["_law_world", "_law_kind", "_law_one", "_law_two", "_law_three"] (defScope s__law_did) := ⟨rfl, rfl, rfl, by decide +kernel, rfl, by decide +kernel, by decide +kernel⟩
theorem sc__law_asked : FnScope ["_law_world", "_law_kind", "_law_one", "_law_two", "_law_three", "_law_caught", "_law_found", "e"] ["_law_world", "_law_kind", "_law_one", "_law_two", "_law_three"] (defScope s__law_asked) := ⟨rfl, rfl, rfl, by decide +kernel, rfl, by decide +kernel, by decide +kernel⟩
theorem sc__law_not_made : FnScope ["_law_town_here", "_law_bad", "_law_odd", "_law_foes", "_law_begin", "_law_rogues", "_law_found"] ["_law_town_here"] (defScope s__law_not_made) := ⟨rfl, rfl, rfl, by decide +kernel, rfl, by decide +kernel, by decide +kernel⟩
theorem sc__law_bad_ones : FnScope ["_law_world", "_law_odd"] ["_law_world"] (defScope s__law_bad_ones) := ⟨rfl, rfl, rfl, by decide +kernel, rfl, by decide +kernel, by decide +kernel⟩
theorem sc_law : FnScope ["_law_script", "_law_town_here", "_law_world", "_law_odd"] ["_law_script"] (defScope s_law) := ⟨rfl, rfl, rfl, by decide +kernel, rfl, by decide +kernel, by decide +kernel⟩
theorem nd_0 : (["each"] : List Str).Nodup := by decide +kernel
theorem nd_1 : (["order", "self"] : List Str).Nodup := by decide +kernel
theorem nd_2 : (["each"] : List Str).Nodup := by decide +kernel
theorem nd_3 : (["house", "sums", "liars"] : List Str).Nodup := by decide +kernel
theorem nd_4 : (["keeper", "purse", "asked"] : List Str).Nodup := by decide +kernel
theorem nd_5 : (["_law_kind", "_law_world", "_law_odd"] : List Str).Nodup := by decide +kernel
theorem nd_6 : (["_law_kind", "_law_world"] : List Str).Nodup := by decide +kernel
theorem nd_7 : (["_law_k", "_law_world"] : List Str).Nodup := by decide +kernel
theorem boot_isinstance : bootBuiltins "isinstance" = some (.builtin "isinstance") := by decide +kernel
theorem boot_bool : bootBuiltins "bool" = some (.type "bool") := by decide +kernel
theorem boot_int : bootBuiltins "int" = some (.type "int") := by decide +kernel
theorem boot_len : bootBuiltins "len" = some (.builtin "len") := by decide +kernel
theorem boot_tuple : bootBuiltins "tuple" = some (.type "tuple") := by decide +kernel
theorem boot_all : bootBuiltins "all" = some (.builtin "all") := by decide +kernel
theorem boot_list : bootBuiltins "list" = some (.type "list") := by decide +kernel
theorem boot_sum : bootBuiltins "sum" = some (.builtin "sum") := by decide +kernel
theorem boot_max : bootBuiltins "max" = some (.builtin "max") := by decide +kernel
theorem boot_ValueError : bootBuiltins "ValueError" = some (.type "ValueError") := by decide +kernel
structure Ad where
  f_is_whole : Addr
  d_is_whole : FuncData
  f_is_between : Addr
  d_is_between : FuncData
  f_is_order : Addr
  d_is_order : FuncData
  f_are_rising : Addr
  d_are_rising : FuncData
  f_is_rising_row : Addr
  d_is_rising_row : FuncData
  f_is_house_count : Addr
  d_is_house_count : FuncData
  f_is_few : Addr
  d_is_few : FuncData
  f_outnumber : Addr
  d_outnumber : FuncData
  f_enough_of : Addr
  d_enough_of : FuncData
  f_are_sums : Addr
  d_are_sums : FuncData
  f_are_first_sums : Addr
  d_are_first_sums : FuncData
  f_NoPurse___init__ : Addr
  d_NoPurse___init__ : FuncData
  f_NoHouse___init__ : Addr
  d_NoHouse___init__ : FuncData
  f_check_houses : Addr
  d_check_houses : FuncData
  f_check_purses : Addr
  d_check_purses : FuncData
  f_Board___init__ : Addr
  d_Board___init__ : FuncData
  f_Board_is_carried : Addr
  d_Board_is_carried : FuncData
  f_Book___init__ : Addr
  d_Book___init__ : FuncData
  f_Book_is_past : Addr
  d_Book_is_past : FuncData
  f_Keeper___init__ : Addr
  d_Keeper___init__ : FuncData
  f_Keeper_left_of : Addr
  d_Keeper_left_of : FuncData
  f_World___init__ : Addr
  d_World___init__ : FuncData
  f_World_write_to_all : Addr
  d_World_write_to_all : FuncData
  f_World_letters : Addr
  d_World_letters : FuncData
  f_World_keeper_of : Addr
  d_World_keeper_of : FuncData
  f_World_check_liar : Addr
  d_World_check_liar : FuncData
  f_World_check_purse : Addr
  d_World_check_purse : FuncData
  f_World_check_asker : Addr
  d_World_check_asker : FuncData
  f_World_check_order : Addr
  d_World_check_order : FuncData
  f_World_next_number : Addr
  d_World_next_number : FuncData
  f_World_ask : Addr
  d_World_ask : FuncData
  f_World_cheat : Addr
  d_World_cheat : FuncData
  f_World_lie : Addr
  d_World_lie : FuncData
  f_World_show : Addr
  d_World_show : FuncData
  f_World_come : Addr
  d_World_come : FuncData
  f_World_sums : Addr
  d_World_sums : FuncData
  f_World_voted : Addr
  d_World_voted : FuncData
  f_World_paper : Addr
  d_World_paper : FuncData
  f__law_town : Addr
  d__law_town : FuncData
  f__law_draw : Addr
  d__law_draw : FuncData
  f__law_pick : Addr
  d__law_pick : FuncData
  f__law_refusal : Addr
  d__law_refusal : FuncData
  f__law_made : Addr
  d__law_made : FuncData
  f__law_did : Addr
  d__law_did : FuncData
  f__law_asked : Addr
  d__law_asked : FuncData
  f__law_not_made : Addr
  d__law_not_made : FuncData
  f__law_bad_ones : Addr
  d__law_bad_ones : FuncData
  f_law : Addr
  d_law : FuncData
  a_Book : Addr
  a_Keeper : Addr
  a_Board : Addr
  a_World : Addr
  a_BadHouses : Addr
  a_BadNumber : Addr
  a_NoHouse : Addr
  a_NoPurse : Addr
  a_BadOrder : Addr
  a_BadPaper : Addr
  a_NoLetter : Addr
  a_TooMuch : Addr
  a_NotNow : Addr
  a_PurseError : Addr
  a_BadCut : Addr
  a_BadText : Addr
def asked (t : Ad) : List Value := [.ref t.a_BadNumber, .ref t.a_BadOrder, .ref t.a_BadHouses, .ref t.a_NoHouse, .ref t.a_NoPurse, .ref t.a_NoLetter, .ref t.a_NotNow, .ref t.a_TooMuch, .ref t.a_BadPaper, .ref t.a_BadCut, .ref t.a_BadText, .ref t.a_PurseError, .type "ValueError"]
structure Txt (K : W.Frag) (mg : Str → Option Value) (t : Ad) : Prop where
  F_is_whole : Fun K "is_whole" "is_whole" s_is_whole t.f_is_whole t.d_is_whole
  m_is_whole : mg "is_whole" = some (.ref t.f_is_whole)
  b_is_whole : Binds K t.d_is_whole ["thing"] []
  F_is_between : Fun K "is_between" "is_between" s_is_between t.f_is_between t.d_is_between
  m_is_between : mg "is_between" = some (.ref t.f_is_between)
  b_is_between : Binds K t.d_is_between ["thing", "low", "high"] []
  F_is_order : Fun K "is_order" "is_order" s_is_order t.f_is_order t.d_is_order
  m_is_order : mg "is_order" = some (.ref t.f_is_order)
  bk0_is_order : KBinds K t.d_is_order ["thing", "purses"] ["purses"] kb11 kb11
  F_are_rising : Fun K "are_rising" "are_rising" s_are_rising t.f_are_rising t.d_are_rising
  m_are_rising : mg "are_rising" = some (.ref t.f_are_rising)
  b_are_rising : Binds K t.d_are_rising ["things", "bound"] []
  F_is_rising_row : Fun K "is_rising_row" "is_rising_row" s_is_rising_row t.f_is_rising_row t.d_is_rising_row
  m_is_rising_row : mg "is_rising_row" = some (.ref t.f_is_rising_row)
  b_is_rising_row : Binds K t.d_is_rising_row ["thing", "bound"] []
  F_is_house_count : Fun K "is_house_count" "is_house_count" s_is_house_count t.f_is_house_count t.d_is_house_count
  m_is_house_count : mg "is_house_count" = some (.ref t.f_is_house_count)
  b_is_house_count : Binds K t.d_is_house_count ["thing"] []
  F_is_few : Fun K "is_few" "is_few" s_is_few t.f_is_few t.d_is_few
  m_is_few : mg "is_few" = some (.ref t.f_is_few)
  b_is_few : Binds K t.d_is_few ["thing"] []
  F_outnumber : Fun K "outnumber" "outnumber" s_outnumber t.f_outnumber t.d_outnumber
  m_outnumber : mg "outnumber" = some (.ref t.f_outnumber)
  bk0_outnumber : KBinds K t.d_outnumber ["houses", "few"] ["few"] kb11 kb11
  F_enough_of : Fun K "enough_of" "enough_of" s_enough_of t.f_enough_of t.d_enough_of
  m_enough_of : mg "enough_of" = some (.ref t.f_enough_of)
  bk0_enough_of : KBinds K t.d_enough_of ["houses", "few"] ["few"] kb11 kb11
  F_are_sums : Fun K "are_sums" "are_sums" s_are_sums t.f_are_sums t.d_are_sums
  m_are_sums : mg "are_sums" = some (.ref t.f_are_sums)
  b_are_sums : Binds K t.d_are_sums ["thing"] []
  F_are_first_sums : Fun K "are_first_sums" "are_first_sums" s_are_first_sums t.f_are_first_sums t.d_are_first_sums
  m_are_first_sums : mg "are_first_sums" = some (.ref t.f_are_first_sums)
  b_are_first_sums : Binds K t.d_are_first_sums ["thing"] []
  F_NoPurse___init__ : Fun K "__init__" "NoPurse.__init__" s_NoPurse___init__ t.f_NoPurse___init__ t.d_NoPurse___init__
  xin_NoPurse : XInit K t.a_NoPurse t.f_NoPurse___init__ "purse"
  b_NoPurse___init__ : Binds K t.d_NoPurse___init__ ["self", "purse"] []
  F_NoHouse___init__ : Fun K "__init__" "NoHouse.__init__" s_NoHouse___init__ t.f_NoHouse___init__ t.d_NoHouse___init__
  xin_NoHouse : XInit K t.a_NoHouse t.f_NoHouse___init__ "house"
  b_NoHouse___init__ : Binds K t.d_NoHouse___init__ ["self", "house"] []
  F_check_houses : Fun K "check_houses" "check_houses" s_check_houses t.f_check_houses t.d_check_houses
  m_check_houses : mg "check_houses" = some (.ref t.f_check_houses)
  bk0_check_houses : KBinds K t.d_check_houses ["houses", "few", "liars"] ["few", "liars"] kb12 kb12
  F_check_purses : Fun K "check_purses" "check_purses" s_check_purses t.f_check_purses t.d_check_purses
  m_check_purses : mg "check_purses" = some (.ref t.f_check_purses)
  bk0_check_purses : KBinds K t.d_check_purses ["sums", "cheats"] ["cheats"] kb11 kb11
  F_Board___init__ : Fun K "__init__" "Board.__init__" s_Board___init__ t.f_Board___init__ t.d_Board___init__
  mt_Board___init__ : Meth K t.a_Board "__init__" t.f_Board___init__
  mk_Board : Mk K t.a_Board t.f_Board___init__
  b_Board___init__ : Binds K t.d_Board___init__ ["self", "enough"] []
  F_Board_is_carried : Fun K "is_carried" "Board.is_carried" s_Board_is_carried t.f_Board_is_carried t.d_Board_is_carried
  mt_Board_is_carried : Meth K t.a_Board "is_carried" t.f_Board_is_carried
  b_Board_is_carried : Binds K t.d_Board_is_carried ["self", "thing"] []
  F_Book___init__ : Fun K "__init__" "Book.__init__" s_Book___init__ t.f_Book___init__ t.d_Book___init__
  mt_Book___init__ : Meth K t.a_Book "__init__" t.f_Book___init__
  mk_Book : Mk K t.a_Book t.f_Book___init__
  b_Book___init__ : Binds K t.d_Book___init__ ["self", "sums"] []
  F_Book_is_past : Fun K "is_past" "Book.is_past" s_Book_is_past t.f_Book_is_past t.d_Book_is_past
  mt_Book_is_past : Meth K t.a_Book "is_past" t.f_Book_is_past
  b_Book_is_past : Binds K t.d_Book_is_past ["self", "order"] []
  F_Keeper___init__ : Fun K "__init__" "Keeper.__init__" s_Keeper___init__ t.f_Keeper___init__ t.d_Keeper___init__
  mt_Keeper___init__ : Meth K t.a_Keeper "__init__" t.f_Keeper___init__
  mk_Keeper : Mk K t.a_Keeper t.f_Keeper___init__
  b_Keeper___init__ : Binds K t.d_Keeper___init__ ["self", "sums"] []
  F_Keeper_left_of : Fun K "left_of" "Keeper.left_of" s_Keeper_left_of t.f_Keeper_left_of t.d_Keeper_left_of
  mt_Keeper_left_of : Meth K t.a_Keeper "left_of" t.f_Keeper_left_of
  b_Keeper_left_of : Binds K t.d_Keeper_left_of ["self", "purse", "orders"] []
  F_World___init__ : Fun K "__init__" "World.__init__" s_World___init__ t.f_World___init__ t.d_World___init__
  mt_World___init__ : Meth K t.a_World "__init__" t.f_World___init__
  mk_World : Mk K t.a_World t.f_World___init__
  bk0_World___init__ : KBinds K t.d_World___init__ ["self", "houses", "few", "sums", "liars", "cheats"] ["few", "sums", "liars", "cheats"] kb24 kb24
  F_World_write_to_all : Fun K "write_to_all" "World.write_to_all" s_World_write_to_all t.f_World_write_to_all t.d_World_write_to_all
  mt_World_write_to_all : Meth K t.a_World "write_to_all" t.f_World_write_to_all
  b_World_write_to_all : Binds K t.d_World_write_to_all ["self", "word", "order"] []
  F_World_letters : Fun K "letters" "World.letters" s_World_letters t.f_World_letters t.d_World_letters
  mt_World_letters : Meth K t.a_World "letters" t.f_World_letters
  b_World_letters : Binds K t.d_World_letters ["self"] []
  F_World_keeper_of : Fun K "keeper_of" "World.keeper_of" s_World_keeper_of t.f_World_keeper_of t.d_World_keeper_of
  mt_World_keeper_of : Meth K t.a_World "keeper_of" t.f_World_keeper_of
  b_World_keeper_of : Binds K t.d_World_keeper_of ["self", "house"] []
  F_World_check_liar : Fun K "check_liar" "World.check_liar" s_World_check_liar t.f_World_check_liar t.d_World_check_liar
  mt_World_check_liar : Meth K t.a_World "check_liar" t.f_World_check_liar
  b_World_check_liar : Binds K t.d_World_check_liar ["self", "liar"] []
  F_World_check_purse : Fun K "check_purse" "World.check_purse" s_World_check_purse t.f_World_check_purse t.d_World_check_purse
  mt_World_check_purse : Meth K t.a_World "check_purse" t.f_World_check_purse
  b_World_check_purse : Binds K t.d_World_check_purse ["self", "purse"] []
  F_World_check_asker : Fun K "check_asker" "World.check_asker" s_World_check_asker t.f_World_check_asker t.d_World_check_asker
  mt_World_check_asker : Meth K t.a_World "check_asker" t.f_World_check_asker
  b_World_check_asker : Binds K t.d_World_check_asker ["self", "purse", "goal"] []
  F_World_check_order : Fun K "check_order" "World.check_order" s_World_check_order t.f_World_check_order t.d_World_check_order
  mt_World_check_order : Meth K t.a_World "check_order" t.f_World_check_order
  b_World_check_order : Binds K t.d_World_check_order ["self", "order"] []
  F_World_next_number : Fun K "next_number" "World.next_number" s_World_next_number t.f_World_next_number t.d_World_next_number
  mt_World_next_number : Meth K t.a_World "next_number" t.f_World_next_number
  b_World_next_number : Binds K t.d_World_next_number ["self", "purse"] []
  F_World_ask : Fun K "ask" "World.ask" s_World_ask t.f_World_ask t.d_World_ask
  mt_World_ask : Meth K t.a_World "ask" t.f_World_ask
  b_World_ask : Binds K t.d_World_ask ["self", "purse", "goal", "much"] []
  F_World_cheat : Fun K "cheat" "World.cheat" s_World_cheat t.f_World_cheat t.d_World_cheat
  mt_World_cheat : Meth K t.a_World "cheat" t.f_World_cheat
  b_World_cheat : Binds K t.d_World_cheat ["self", "order", "house"] []
  F_World_lie : Fun K "lie" "World.lie" s_World_lie t.f_World_lie t.d_World_lie
  mt_World_lie : Meth K t.a_World "lie" t.f_World_lie
  b_World_lie : Binds K t.d_World_lie ["self", "liar", "order"] []
  F_World_show : Fun K "show" "World.show" s_World_show t.f_World_show t.d_World_show
  mt_World_show : Meth K t.a_World "show" t.f_World_show
  b_World_show : Binds K t.d_World_show ["self", "order", "house"] []
  F_World_come : Fun K "come" "World.come" s_World_come t.f_World_come t.d_World_come
  mt_World_come : Meth K t.a_World "come" t.f_World_come
  b_World_come : Binds K t.d_World_come ["self", "at"] []
  F_World_sums : Fun K "sums" "World.sums" s_World_sums t.f_World_sums t.d_World_sums
  mt_World_sums : Meth K t.a_World "sums" t.f_World_sums
  b_World_sums : Binds K t.d_World_sums ["self", "house"] []
  F_World_voted : Fun K "voted" "World.voted" s_World_voted t.f_World_voted t.d_World_voted
  mt_World_voted : Meth K t.a_World "voted" t.f_World_voted
  b_World_voted : Binds K t.d_World_voted ["self", "house", "purse", "number"] []
  F_World_paper : Fun K "paper" "World.paper" s_World_paper t.f_World_paper t.d_World_paper
  mt_World_paper : Meth K t.a_World "paper" t.f_World_paper
  b_World_paper : Binds K t.d_World_paper ["self", "order"] []
  F__law_town : Fun K "_law_town" "_law_town" s__law_town t.f__law_town t.d__law_town
  m__law_town : mg "_law_town" = some (.ref t.f__law_town)
  b__law_town : Binds K t.d__law_town ["_law_script"] []
  F__law_draw : Fun K "_law_draw" "_law_draw" s__law_draw t.f__law_draw t.d__law_draw
  m__law_draw : mg "_law_draw" = some (.ref t.f__law_draw)
  b__law_draw : Binds K t.d__law_draw ["_law_town_here", "_law_many"] []
  F__law_pick : Fun K "_law_pick" "_law_pick" s__law_pick t.f__law_pick t.d__law_pick
  m__law_pick : mg "_law_pick" = some (.ref t.f__law_pick)
  b__law_pick : Binds K t.d__law_pick ["_law_town_here", "_law_some"] []
  F__law_refusal : Fun K "_law_refusal" "_law_refusal" s__law_refusal t.f__law_refusal t.d__law_refusal
  m__law_refusal : mg "_law_refusal" = some (.ref t.f__law_refusal)
  b__law_refusal : Binds K t.d__law_refusal ["_law_caught"] []
  F__law_made : Fun K "_law_made" "_law_made" s__law_made t.f__law_made t.d__law_made
  m__law_made : mg "_law_made" = some (.ref t.f__law_made)
  b__law_made : Binds K t.d__law_made ["_law_crew", "_law_some", "_law_begin", "_law_foes", "_law_rogues"] []
  F__law_did : Fun K "_law_did" "_law_did" s__law_did t.f__law_did t.d__law_did
  m__law_did : mg "_law_did" = some (.ref t.f__law_did)
  b__law_did : Binds K t.d__law_did ["_law_world", "_law_kind", "_law_one", "_law_two", "_law_three"] []
  F__law_asked : Fun K "_law_asked" "_law_asked" s__law_asked t.f__law_asked t.d__law_asked
  m__law_asked : mg "_law_asked" = some (.ref t.f__law_asked)
  b__law_asked : Binds K t.d__law_asked ["_law_world", "_law_kind", "_law_one", "_law_two", "_law_three"] []
  F__law_not_made : Fun K "_law_not_made" "_law_not_made" s__law_not_made t.f__law_not_made t.d__law_not_made
  m__law_not_made : mg "_law_not_made" = some (.ref t.f__law_not_made)
  b__law_not_made : Binds K t.d__law_not_made ["_law_town_here"] []
  F__law_bad_ones : Fun K "_law_bad_ones" "_law_bad_ones" s__law_bad_ones t.f__law_bad_ones t.d__law_bad_ones
  m__law_bad_ones : mg "_law_bad_ones" = some (.ref t.f__law_bad_ones)
  b__law_bad_ones : Binds K t.d__law_bad_ones ["_law_world"] []
  F_law : Fun K "law" "law" s_law t.f_law t.d_law
  m_law : mg "law" = some (.ref t.f_law)
  b_law : Binds K t.d_law ["_law_script"] []
  c_MOST_MUCH : ∃ tk, mg "MOST_MUCH" = some (.int 1000 tk)
  c_LAST_NUMBER : ∃ tk, mg "LAST_NUMBER" = some (.int 99 tk)
  c_MOST_FIRST_SUM : ∃ tk, mg "MOST_FIRST_SUM" = some (.int 1000 tk)
  c_LEAST_PURSES : ∃ tk, mg "LEAST_PURSES" = some (.int 2 tk)
  c_MOST_HOUSES : ∃ tk, mg "MOST_HOUSES" = some (.int 16 tk)
  c_MOST_FEW : ∃ tk, mg "MOST_FEW" = some (.int 5 tk)
  c_MOST_PURSES : ∃ tk, mg "MOST_PURSES" = some (.int 8 tk)
  c_ORDER_LETTER : ∃ tk, mg "ORDER_LETTER" = some (.str "order" tk)
  m_Book : mg "Book" = some (.ref t.a_Book)
  cl_Book : Cls K t.a_Book
  na_Book_held : NoAttr K t.a_Book "held"
  na_Book_next_numbers : NoAttr K t.a_Book "next_numbers"
  na_Book_done : NoAttr K t.a_Book "done"
  m_Keeper : mg "Keeper" = some (.ref t.a_Keeper)
  cl_Keeper : Cls K t.a_Keeper
  na_Keeper_held : NoAttr K t.a_Keeper "held"
  na_Keeper_next_numbers : NoAttr K t.a_Keeper "next_numbers"
  na_Keeper_done : NoAttr K t.a_Keeper "done"
  na_Keeper_heard : NoAttr K t.a_Keeper "heard"
  na_Keeper_unvoted : NoAttr K t.a_Keeper "unvoted"
  na_Keeper_choices : NoAttr K t.a_Keeper "choices"
  na_Keeper_waiting : NoAttr K t.a_Keeper "waiting"
  m_Board : mg "Board" = some (.ref t.a_Board)
  cl_Board : Cls K t.a_Board
  na_Board_enough : NoAttr K t.a_Board "enough"
  na_Board_signers : NoAttr K t.a_Board "signers"
  m_World : mg "World" = some (.ref t.a_World)
  cl_World : Cls K t.a_World
  na_World_purses : NoAttr K t.a_World "purses"
  na_World_total : NoAttr K t.a_World "total"
  na_World_lying : NoAttr K t.a_World "lying"
  na_World_cheating : NoAttr K t.a_World "cheating"
  na_World_keepers : NoAttr K t.a_World "keepers"
  na_World_board : NoAttr K t.a_World "board"
  na_World_asked : NoAttr K t.a_World "asked"
  na_World_on_way : NoAttr K t.a_World "on_way"
  mt_Keeper_is_past : Meth K t.a_Keeper "is_past" t.f_Book_is_past
  cm_Book___init__ : ClsM K t.a_Book "__init__" t.f_Book___init__
  m_BadHouses : mg "BadHouses" = some (.ref t.a_BadHouses)
  m_BadNumber : mg "BadNumber" = some (.ref t.a_BadNumber)
  m_NoHouse : mg "NoHouse" = some (.ref t.a_NoHouse)
  m_NoPurse : mg "NoPurse" = some (.ref t.a_NoPurse)
  m_BadOrder : mg "BadOrder" = some (.ref t.a_BadOrder)
  m_BadPaper : mg "BadPaper" = some (.ref t.a_BadPaper)
  m_NoLetter : mg "NoLetter" = some (.ref t.a_NoLetter)
  m_TooMuch : mg "TooMuch" = some (.ref t.a_TooMuch)
  m_NotNow : mg "NotNow" = some (.ref t.a_NotNow)
  m_PurseError : mg "PurseError" = some (.ref t.a_PurseError)
  m_BadCut : mg "BadCut" = some (.ref t.a_BadCut)
  m_BadText : mg "BadText" = some (.ref t.a_BadText)
  x_BadHouses : XCls K t.a_BadHouses
  xi_BadHouses : XIs K t.a_BadHouses
  xk_BadHouses : kinds K (.ref t.a_BadHouses) (asked t) = [some false, some false, some true, some false, some false, some false, some false, some false, some false, some false, some false, some true, some true]
  xc_BadHouses_PurseError : W.kitCls K (.ref t.a_BadHouses) (.ref t.a_PurseError) = some true
  xc_BadHouses_NoHouse : W.kitCls K (.ref t.a_BadHouses) (.ref t.a_NoHouse) = some false
  xc_BadHouses_NoPurse : W.kitCls K (.ref t.a_BadHouses) (.ref t.a_NoPurse) = some false
  x_BadNumber : XCls K t.a_BadNumber
  xi_BadNumber : XIs K t.a_BadNumber
  xk_BadNumber : kinds K (.ref t.a_BadNumber) (asked t) = [some true, some false, some false, some false, some false, some false, some false, some false, some false, some false, some false, some true, some true]
  xc_BadNumber_PurseError : W.kitCls K (.ref t.a_BadNumber) (.ref t.a_PurseError) = some true
  xc_BadNumber_NoHouse : W.kitCls K (.ref t.a_BadNumber) (.ref t.a_NoHouse) = some false
  xc_BadNumber_NoPurse : W.kitCls K (.ref t.a_BadNumber) (.ref t.a_NoPurse) = some false
  xi_NoHouse : XIs K t.a_NoHouse
  xk_NoHouse : kinds K (.ref t.a_NoHouse) (asked t) = [some false, some false, some false, some true, some false, some false, some false, some false, some false, some false, some false, some true, some true]
  xc_NoHouse_PurseError : W.kitCls K (.ref t.a_NoHouse) (.ref t.a_PurseError) = some true
  xc_NoHouse_NoHouse : W.kitCls K (.ref t.a_NoHouse) (.ref t.a_NoHouse) = some true
  xc_NoHouse_NoPurse : W.kitCls K (.ref t.a_NoHouse) (.ref t.a_NoPurse) = some false
  xi_NoPurse : XIs K t.a_NoPurse
  xk_NoPurse : kinds K (.ref t.a_NoPurse) (asked t) = [some false, some false, some false, some false, some true, some false, some false, some false, some false, some false, some false, some true, some true]
  xc_NoPurse_PurseError : W.kitCls K (.ref t.a_NoPurse) (.ref t.a_PurseError) = some true
  xc_NoPurse_NoHouse : W.kitCls K (.ref t.a_NoPurse) (.ref t.a_NoHouse) = some false
  xc_NoPurse_NoPurse : W.kitCls K (.ref t.a_NoPurse) (.ref t.a_NoPurse) = some true
  x_BadOrder : XCls K t.a_BadOrder
  xi_BadOrder : XIs K t.a_BadOrder
  xk_BadOrder : kinds K (.ref t.a_BadOrder) (asked t) = [some false, some true, some false, some false, some false, some false, some false, some false, some false, some false, some false, some true, some true]
  xc_BadOrder_PurseError : W.kitCls K (.ref t.a_BadOrder) (.ref t.a_PurseError) = some true
  xc_BadOrder_NoHouse : W.kitCls K (.ref t.a_BadOrder) (.ref t.a_NoHouse) = some false
  xc_BadOrder_NoPurse : W.kitCls K (.ref t.a_BadOrder) (.ref t.a_NoPurse) = some false
  x_BadPaper : XCls K t.a_BadPaper
  xi_BadPaper : XIs K t.a_BadPaper
  xk_BadPaper : kinds K (.ref t.a_BadPaper) (asked t) = [some false, some false, some false, some false, some false, some false, some false, some false, some true, some false, some false, some true, some true]
  xc_BadPaper_PurseError : W.kitCls K (.ref t.a_BadPaper) (.ref t.a_PurseError) = some true
  xc_BadPaper_NoHouse : W.kitCls K (.ref t.a_BadPaper) (.ref t.a_NoHouse) = some false
  xc_BadPaper_NoPurse : W.kitCls K (.ref t.a_BadPaper) (.ref t.a_NoPurse) = some false
  x_NoLetter : XCls K t.a_NoLetter
  xi_NoLetter : XIs K t.a_NoLetter
  xk_NoLetter : kinds K (.ref t.a_NoLetter) (asked t) = [some false, some false, some false, some false, some false, some true, some false, some false, some false, some false, some false, some true, some true]
  xc_NoLetter_PurseError : W.kitCls K (.ref t.a_NoLetter) (.ref t.a_PurseError) = some true
  xc_NoLetter_NoHouse : W.kitCls K (.ref t.a_NoLetter) (.ref t.a_NoHouse) = some false
  xc_NoLetter_NoPurse : W.kitCls K (.ref t.a_NoLetter) (.ref t.a_NoPurse) = some false
  x_TooMuch : XCls K t.a_TooMuch
  xi_TooMuch : XIs K t.a_TooMuch
  xk_TooMuch : kinds K (.ref t.a_TooMuch) (asked t) = [some false, some false, some false, some false, some false, some false, some false, some true, some false, some false, some false, some true, some true]
  xc_TooMuch_PurseError : W.kitCls K (.ref t.a_TooMuch) (.ref t.a_PurseError) = some true
  xc_TooMuch_NoHouse : W.kitCls K (.ref t.a_TooMuch) (.ref t.a_NoHouse) = some false
  xc_TooMuch_NoPurse : W.kitCls K (.ref t.a_TooMuch) (.ref t.a_NoPurse) = some false
  x_NotNow : XCls K t.a_NotNow
  xi_NotNow : XIs K t.a_NotNow
  xk_NotNow : kinds K (.ref t.a_NotNow) (asked t) = [some false, some false, some false, some false, some false, some false, some true, some false, some false, some false, some false, some true, some true]
  xc_NotNow_PurseError : W.kitCls K (.ref t.a_NotNow) (.ref t.a_PurseError) = some true
  xc_NotNow_NoHouse : W.kitCls K (.ref t.a_NotNow) (.ref t.a_NoHouse) = some false
  xc_NotNow_NoPurse : W.kitCls K (.ref t.a_NotNow) (.ref t.a_NoPurse) = some false
  be_PurseError : W.mroIn K t.a_PurseError (.type "BaseException") = some true
  be_NoHouse : W.mroIn K t.a_NoHouse (.type "BaseException") = some true
  be_NoPurse : W.mroIn K t.a_NoPurse (.type "BaseException") = some true
  n_isinstance : mg "isinstance" = none
  n_bool : mg "bool" = none
  n_int : mg "int" = none
  n_len : mg "len" = none
  n_tuple : mg "tuple" = none
  n_all : mg "all" = none
  n_list : mg "list" = none
  n_sum : mg "sum" = none
  n_range : mg "range" = none
  n_max : mg "max" = none
  n_ValueError : mg "ValueError" = none
def ordV (o : O) : List V := [.int o.p, .int o.n, .int o.g, .int o.m]
theorem same_upd {H : Hp} {p : Addr} {o : HO} (h : H p = none) : Same H (upd H p o) := fun b u e => by rw [upd_ne (ne_of_none e h)]; exact e
theorem nd {c : Prop} [Decidable c] (h : (!decide c) = true) : ¬ c := fun z => by rw [decide_eq_true z] at h; cases h
theorem take_snoc {α : Type} {l : List α} {i : Nat} {x : α} (h : l[i]? = some x) : l.take (i + 1) = l.take i ++ [x] := by rw [List.take_add_one, h]; rfl
theorem set_map (s : List Int) (i : Nat) (z : Int) : (s.map V.int).set i (.int z) = (s.set i z).map V.int := by rw [List.map_set]
theorem get_map {s : List Int} {i : Nat} (h : i < s.length) : (s.map V.int)[i]? = some (.int (s.getD i 0)) := by
  rw [List.getElem?_map, List.getElem?_eq_getElem h, List.getD_eq_getElem?_getD, List.getElem?_eq_getElem h]
  rfl
theorem ixN_of {n : Nat} {i : Int} (h0 : 0 ≤ i) (h1 : i.toNat < n) : ixN n i = some i.toNat := by
  unfold ixN
  rw [if_pos h0, if_pos (by omega)]
theorem atI_of {α : Type} {xs : List α} {i : Int} {v : α} (h0 : 0 ≤ i) (h : xs[i.toNat]? = some v) : atI xs i = some v := by
  unfold atI
  rw [ixN_of h0 (List.getElem?_eq_some_iff.mp h).1]
  exact h
theorem tYes_intro {i : Nat} {x : V} {σ : St} {H : Hp} {F G : St → Hp → Prop} (h : F (σ.set i (some x)) H) : gName i x σ H fun σ2 H2 => tYes σ2 H2 fun b H3 => if b = true then F σ2 H3 else G σ2 H3 := iteT (A := F (σ.set i (some x)) H) (B := G (σ.set i (some x)) H) h
theorem len1000 {n : Nat} (h : n ≤ 1000) : n ≤ sizeLine := Nat.le_of_lt (small1000 h)
def Town (T R : Addr) (H : Hp) : Prop := ∃ (row : List Int) (c : Int), H T = some (.lst [.ref R, .int c]) ∧ H R = some (.lst (row.map V.int)) ∧ 0 < row.length
def KeepT (T R : Addr) (H H' : Hp) : Prop := ∀ b o, H b = some o → b ≠ T → b ≠ R → H' b = some o
theorem Town.ne {T R : Addr} {H : Hp} (h : Town T R H) : T ≠ R := by
  obtain ⟨row, c, h1, h2, h3⟩ := h
  refine ne_of h1 h2 fun e => ?_
  have e' := HO.lst.inj e
  cases row with
  | nil => cases h3
  | cons x r => rw [List.map_cons] at e'; cases (List.cons.inj e').1
theorem Town.same {T R : Addr} {H H' : Hp} (h : Town T R H) (s : Same H H') : Town T R H' := by
  obtain ⟨row, c, h1, h2, h3⟩ := h
  exact ⟨row, c, s _ _ h1, s _ _ h2, h3⟩
theorem Town.fresh {T R b : Addr} {H : Hp} (h : Town T R H) (hb : H b = none) : b ≠ T ∧ b ≠ R := by
  obtain ⟨row, c, h1, h2, h3⟩ := h
  exact ⟨(ne_of_none h1 hb).symm, (ne_of_none h2 hb).symm⟩
def simple : V → Bool
  | .non => true
  | .bl _ => true
  | .int _ => true
  | .str _ => true
  | _ => false
def Thing (H : Hp) (x : V) : Prop := simple x = true ∨ ∃ a xs, x = .ref a ∧ (H a = some (.lst xs) ∨ H a = some (.tup xs))
def isI : V → Bool
  | .int _ => true
  | _ => false
def isB (x : V) (l h : Int) : Bool := match x with
  | .int i => decide (l ≤ i ∧ i ≤ h)
  | _ => false
def isOV (q : Int) (xs : List V) : Bool := match xs with
  | [p, n, g, m] => isB p 0 (q - 1) && isB g 0 (q - 1) && !decide (p = g) && isB n 0 99 && isB m 1 1000
  | _ => false
theorem isB_int {x : V} {l h : Int} (e : isB x l h = true) : ∃ i, x = .int i ∧ l ≤ i ∧ i ≤ h := by
  cases x with
  | int i => exact ⟨i, rfl, of_decide_eq_true e⟩
  | _ => cases e
def OrdIs (H : Hp) (q : Int) (x : V) (b : Bool) : Prop := (simple x = true ∧ b = false) ∨ (∃ a xs, x = .ref a ∧ H a = some (.lst xs) ∧ b = false) ∨ (∃ a xs, x = .ref a ∧ H a = some (.tup xs) ∧ (∀ y ∈ xs, Thing H y) ∧ b = isOV q xs)
theorem OrdIs.same {H H' : Hp} {q : Int} {x : V} {b : Bool} (s : Same H H') (h : OrdIs H q x b) : OrdIs H' q x b := by
  rcases h with h | ⟨a, xs, e, h, z⟩ | ⟨a, xs, e, h, k, z⟩
  · exact .inl h
  · exact .inr (.inl ⟨a, xs, e, s _ _ h, z⟩)
  · refine .inr (.inr ⟨a, xs, e, s _ _ h, fun y hy => ?_, z⟩)
    rcases k y hy with q | ⟨b, ys, e, q | q⟩
    · exact .inl q
    · exact .inr ⟨b, ys, e, .inl (s _ _ q)⟩
    · exact .inr ⟨b, ys, e, .inr (s _ _ q)⟩
def sp_is_whole : Sp := fun vs H Q _ => ∃ x, vs = [x] ∧ Thing H x ∧ Q (.bl (isI x)) H
def sp_is_between : Sp := fun vs H Q _ => ∃ x l h, vs = [x, .int l, .int h] ∧ Thing H x ∧ Q (.bl (isB x l h)) H
def sp_is_order : Sp := fun vs H Q _ => ∃ x q b, vs = [x, .int q] ∧ OrdIs H q x b ∧ Q (.bl b) H
def sp_town (K : W.Frag) : Sp := fun vs H Q _ => ∃ (a : Addr) (ns : List Int), vs = [.ref a] ∧ SqL K H a (ns.map V.int) ∧ ∀ T R H', H T = none → H R = none → Same H H' → Town T R H' → Q (.ref T) H'
def sp_draw : Sp := fun vs H Q _ => ∃ (T R : Addr) (m : Int), vs = [.ref T, .int m] ∧ Town T R H ∧ 1 ≤ m ∧ m < 1073741824 ∧ ∀ d H', 0 ≤ d → d < m → Town T R H' → KeepT T R H H' → Q (.int d) H'
def sp_pick : Sp := fun vs H Q _ => ∃ (T R S : Addr) (xs : List V), vs = [.ref T, .ref S] ∧ Town T R H ∧ H S = some (.lst xs) ∧ S ≠ T ∧ S ≠ R ∧ 0 < xs.length ∧ xs.length ≤ 1000 ∧
  ∀ (i : Nat) (x : V) (H' : Hp), xs[i]? = some x → Town T R H' → KeepT T R H H' → Q x H'
def Stay (H H' : Hp) : Prop := (∀ a xs, H a = some (.lst xs) → ∃ ys, H' a = some (.lst ys)) ∧ ∀ a xs, H a = some (.tup xs) → H' a = some (.tup xs)
theorem Stay.of {H H' : Hp} (s : Same H H') : Stay H H' := ⟨fun a xs e => ⟨xs, s _ _ e⟩, fun a xs e => s _ _ e⟩
theorem Thing.stay {H H' : Hp} {x : V} (s : Stay H H') (h : Thing H x) : Thing H' x := by
  rcases h with h | ⟨a, xs, e, h | h⟩
  · exact .inl h
  · obtain ⟨ys, h'⟩ := s.1 _ _ h
    exact .inr ⟨a, ys, e, .inl h'⟩
  · exact .inr ⟨a, xs, e, .inr (s.2 _ _ h)⟩
theorem ord_tup {H : Hp} {q : Int} {a : Addr} {xs : List V} {b : Bool} (h : H a = some (.tup xs)) (hx : ∀ y ∈ xs, simple y = true) (e : isOV q xs = b) : OrdIs H q (.ref a) b :=
  .inr (.inr ⟨a, xs, rfl, h, fun y hy => .inl (hx y hy), e.symm⟩)
theorem upd_none' {H : Hp} {a b : Addr} {o : HO} (h : upd H a o b = none) : b ≠ a ∧ H b = none := by
  have hb : b ≠ a := fun z => by
    rw [z, upd_same] at h
    cases h
  rw [upd_ne hb] at h
  exact ⟨hb, h⟩
def brd (S : Addr) (en : Int) : List (Str × V) := putF "signers" (.ref S) (putF "enough" (.int en) [])
theorem brd_signers (S : Addr) (en : Int) : (brd S en).lookup ("signers" : Str) = some (.ref S) := by
  unfold brd
  rw [lookup_putF, if_pos rfl]
theorem brd_enough (S : Addr) (en : Int) : (brd S en).lookup ("enough" : Str) = some (.int en) := by
  unfold brd
  rw [lookup_putF, if_neg (by decide +kernel), lookup_putF, if_pos rfl]
theorem brd_no (S : Addr) (en : Int) {m : Str} (h1 : ¬ m = "signers") (h2 : ¬ m = "enough") : (brd S en).lookup m = none := by
  unfold brd
  rw [lookup_putF, if_neg h1, lookup_putF, if_neg h2]
  rfl
abbrev Things := List (List Key × List Int)
def HsAt (H : Hp) (kv : List Key × V) (p : List Key × List Int) : Prop := kv.1 = p.1 ∧ ∃ b, kv.2 = .ref b ∧ H b = some (.lst (p.2.map V.int))
structure BoardAt (t : Ad) (H : Hp) (p dx S : Addr) (en : Int) (kvs : List (List Key × V)) (ps : Things) : Prop where
  ob : H p = some (.ins t.a_Board dx (brd S en))
  sg : H S = some (.dT kvs)
  hs : Paired (HsAt H) kvs ps
  un : (kvs.map (·.2)).Nodup
theorem BoardAt.same {t : Ad} {H H' : Hp} {p dx S : Addr} {en : Int} {kvs : List (List Key × V)} {ps : Things} (s : Same H H') (b : BoardAt t H p dx S en kvs ps) : BoardAt t H' p dx S en kvs ps :=
  ⟨s _ _ b.ob, s _ _ b.sg, Paired.mapP b.hs fun _ _ ⟨e, c, ec, h⟩ => ⟨e, c, ec, s _ _ h⟩, b.un⟩
structure BoardRd (t : Ad) (H : Hp) (p dx S : Addr) (en : Int) (kvs : List (List Key × V)) (ps : Things) : Prop where
  ob : H p = some (.ins t.a_Board dx (brd S en))
  sg : Rd H S (.dT kvs)
  hs : Paired (HsAt H) kvs ps
theorem BoardAt.rd {t : Ad} {H : Hp} {p dx S : Addr} {en : Int} {kvs : List (List Key × V)} {ps : Things} (b : BoardAt t H p dx S en kvs ps) : BoardRd t H p dx S en kvs ps := ⟨b.ob, .inl b.sg, b.hs⟩
theorem rd_same {H H' : Hp} {a : Addr} {u : HO} (s : Same H H') (h : Rd H a u) : Rd H' a u := by
  rcases h with h | ⟨o, h⟩
  · exact .inl (s _ _ h)
  · exact .inr ⟨o, s _ _ h⟩
def housesOf : Things → List Key → List Int
  | [], _ => []
  | p :: ps, k => if p.1 = k then p.2 else housesOf ps k
theorem val_houses {H : Hp} {k : List Key} : ∀ {kvs : List (List Key × V)} {ps : Things}, Paired (HsAt H) kvs ps → (valV kvs k = none ∧ housesOf ps k = [] ∧ k ∉ ps.map (·.1)) ∨ ∃ b, valV kvs k = some (.ref b) ∧ H b = some (.lst ((housesOf ps k).map V.int))
  | _, _, .nil => .inl ⟨rfl, rfl, by simp⟩
  | kv :: kvs, p :: ps, .cons ⟨e, b, eb, h⟩ r => by
    by_cases z : p.1 = k
    · refine .inr ⟨b, ?_, ?_⟩
      · rw [valV_pos (e.trans z), eb]
      · rw [housesOf, if_pos z]
        exact h
    · have z' : ¬ kv.1 = k := fun q => z (e.symm.trans q)
      rw [housesOf, if_neg z, valV_neg z']
      rcases val_houses r with ⟨h1, h2, h3⟩ | h
      · exact .inl ⟨h1, h2, by rw [List.map_cons, List.mem_cons]; exact fun q => q.elim (fun q => z q.symm) h3⟩
      · exact .inr h
def sp_brinit (t : Ad) : Sp := fun vs H Q _ => ∃ x dx en, vs = [.ref x, .int en] ∧ H x = some (.ins t.a_Board dx []) ∧ ∀ S H', H S = none → BoardAt t H' x dx S en [] [] → (∀ b o, H b = some o → b ≠ x → H' b = some o) → Q .non H'
def sp_carriedIs (t : Ad) : Sp := fun vs H Q _ => ∃ p dx S en kvs ps b k, vs = [.ref p, .ref b] ∧ BoardRd t H p dx S en kvs ps ∧ H b = some (.tup (k.map kV)) ∧ ∀ H', Same H H' → Q (.bl (decide (en ≤ ((housesOf ps k).length : Int)))) H'
theorem paired_app {α β : Type} {F : α → β → Prop} : ∀ {xs : List α} {ys : List β} {x : α} {y : β}, Paired F xs ys → F x y → Paired F (xs ++ [x]) (ys ++ [y])
  | _, _, _, _, .nil, h => .cons h .nil
  | _, _, _, _, .cons a r, h => .cons a (paired_app r h)
def litBad (q : Int) : Lit → Bool
  | .c v => simple v
  | .t xs => xs.all simple && !isOV q xs
  | .l _ => true
  | .r _ _ => true
theorem lits_bad {G H : Hp} {q : Int} : ∀ {ls : List Lit} {vs : List V}, Paired (LitAt G H) ls vs → ls.all (litBad q) = true → ∀ x ∈ vs, OrdIs H q x false
  | _, _, .nil, _, x, hx => by cases hx
  | l :: ls, v :: vs, .cons h r, e, x, hx => by
    rw [List.all_cons, Bool.and_eq_true] at e
    rcases List.mem_cons.mp hx with rfl | hx
    · cases l with
      | c w =>
        have h' : x = w := h
        subst h'
        exact .inl ⟨e.1, rfl⟩
      | t xs =>
        obtain ⟨p, rfl, _, hp⟩ := h
        have e1 : (xs.all simple && !isOV q xs) = true := e.1
        rw [Bool.and_eq_true, Bool.not_eq_true'] at e1
        exact ord_tup hp (fun y hy => List.all_eq_true.mp e1.1 y hy) e1.2
      | l xs =>
        obtain ⟨p, rfl, _, hp⟩ := h
        exact .inr (.inl ⟨p, xs, rfl, hp, rfl⟩)
      | r xs k =>
        obtain ⟨p, rfl, _, hp⟩ := h
        exact .inr (.inl ⟨p, _, rfl, hp, rfl⟩)
    · exact lits_bad r e.2 x hx
theorem hasDs_strs (K : W.Frag) (H : Hp) : ∀ ws : List Str, HasDs K H (ws.map Dt.str) (ws.map V.str)
  | [] => by rw [List.map_nil, List.map_nil, HasDs]
  | n :: ns => by
    rw [List.map_cons, List.map_cons, HasDs]
    exact ⟨_, _, rfl, by rw [HasD], hasDs_strs K H ns⟩
theorem hasD_listS {K : W.Frag} {H : Hp} {a : Addr} {ws : List Str} (h : SqL K H a (ws.map V.str)) : HasD K H (.lst (ws.map Dt.str)) (.ref a) := by
  rw [HasD]
  exact ⟨a, _, rfl, h, hasDs_strs K H ws⟩
section
variable {P : Program} {w : World} {K : W.Frag} {mg : Str → Option Value} {base : Heap} {t : Ad}
theorem ok_is_whole (T : Txt K mg t) : FnOk P w K mg base CX0 1 t.f_is_whole t.d_is_whole ["thing"] sp_is_whole := by
  refine T.F_is_whole.ok sc_is_whole (fun vs H Q E h => ?_) (fun cdv A outer s H vs Q E hr h => ?_)
  · obtain ⟨i, rfl, _⟩ := h
    rfl
  · obtain ⟨x, rfl, th, q⟩ := h
    refine ⟨_, (@pss_one _ _ _ (ps_ret (pe_and (pe_callB call_isinst rfl T.n_isinstance boot_isinstance (@pa_2 _ _ _ _ _ (pv 0) (pe_bltn (v := .ty "int") rfl T.n_int boot_int rfl) rfl rfl)) (pe_one (pe_not (pe_callB call_isinst rfl T.n_isinstance boot_isinstance (@pa_2 _ _ _ _ _ (pv 0) (pe_bltn (v := .ty "bool") rfl T.n_bool boot_bool rfl) rfl rfl))))))), ?_⟩
    rcases th with z | ⟨a, xs, rfl, e | e⟩
    · cases x with
      | non => exact ⟨_, rfl, _, _, _, false, rfl, .non, rfl, _, rfl, iteF q⟩
      | bl b => exact ⟨_, rfl, _, _, _, true, rfl, .bl _, rfl, _, rfl, iteT ⟨_, rfl, _, _, _, true, rfl, .bl _, rfl, _, rfl, q⟩⟩
      | int i => exact ⟨_, rfl, _, _, _, true, rfl, .int _, rfl, _, rfl, iteT ⟨_, rfl, _, _, _, false, rfl, .int _, rfl, _, rfl, q⟩⟩
      | str i => exact ⟨_, rfl, _, _, _, false, rfl, .str _, rfl, _, rfl, iteF q⟩
      | _ => cases z
    · exact ⟨_, rfl, _, _, _, false, rfl, .lst e, rfl, _, rfl, iteF q⟩
    · exact ⟨_, rfl, _, _, _, false, rfl, .tup e, rfl, _, rfl, iteF q⟩
theorem isB_no {x : V} {l h : Int} (e : isI x = false) : isB x l h = false := by cases x <;> first | rfl | cases e
theorem ok_is_between (T : Txt K mg t) : FnOk P w K mg base CX0 2 t.f_is_between t.d_is_between ["thing", "low", "high"] sp_is_between := by
  refine T.F_is_between.ok sc_is_between (fun vs H Q E h => ?_) (fun cdv A outer s H vs Q E hr h => ?_)
  · obtain ⟨i, l, h, rfl, _⟩ := h
    rfl
  · obtain ⟨x, l, u, rfl, th, q⟩ := h
    refine ⟨_, (@pss_one _ _ _ (ps_ret (pe_and (pe_call (ok_is_whole T) (hr.mono (by decide)) rfl T.m_is_whole T.F_is_whole.kp T.b_is_whole .nil pass0 (pa_more (pv 0) pa_nil)) (pe_one (pe_chain op_le op_le (pv 1) (pv 0) (pv 2)))))), ?_⟩
    refine ⟨_, rfl, x, rfl, th, _, rfl, ?_⟩
    cases hx : isI x with
    | false =>
      rw [isB_no hx] at q
      exact iteF q
    | true =>
      cases x with
      | int i =>
        refine iteT ?_
        refine ⟨_, rfl, _, rfl, _, _, rfl, rfl, _, rfl, ?_⟩
        have q' : Q (.bl (decide (l ≤ i ∧ i ≤ u))) H := q
        refine ite2 (fun h1 => ?_) (fun h1 => ?_)
        · refine ⟨_, rfl, _, _, rfl, rfl, ?_⟩
          have e : decide (l ≤ i ∧ i ≤ u) = decide (i ≤ u) := by
            have h1' := of_decide_eq_true h1
            simp [h1']
          rw [e] at q'
          exact q'
        · have e : decide (l ≤ i ∧ i ≤ u) = false := by
            have h1' : ¬ l ≤ i := fun z => h1 (decide_eq_true z)
            simp [h1']
          rw [e] at q'
          exact q'
      | _ => cases hx
theorem ok_is_order (T : Txt K mg t) : FnOk P w K mg base CX0 3 t.f_is_order t.d_is_order ["thing", "purses"] sp_is_order := by
  refine T.F_is_order.ok sc_is_order (fun vs H Q E h => ?_) (fun cdv A outer s H vs Q E hr h => ?_)
  · obtain ⟨a, o, q, rfl, _⟩ := h
    rfl
  · obtain ⟨x, q, b, rfl, hx, k⟩ := h
    refine ⟨_, (@pss_cons _ _ _ _ _ (ps_if (PW.pt (pw_or (pt_not (pt_val (pe_callB call_isinst rfl T.n_isinstance boot_isinstance (@pa_2 _ _ _ _ _ (pv 0) (pe_bltn (v := .ty "tuple") rfl T.n_tuple boot_tuple rfl) rfl rfl)))) (pw_or1 (pt_cmpR op_ne (pe_callB call_len_seq rfl T.n_len boot_len (pa_more (pv 0) pa_nil)) pe_int (nomark _))))) (@pss_one _ _ _ (ps_ret pe_bl)) pss_nil)
      (@pss_cons _ _ _ _ _ (ps_asg (pv 0) (pg_tup rfl (pgs_cons (pg_name (i := 2) sc_is_order.nd rfl (Or.inl rfl)) (pgs_cons (pg_name (i := 3) sc_is_order.nd rfl (Or.inl rfl)) (pgs_cons (pg_name (i := 4) sc_is_order.nd rfl (Or.inl rfl)) (pgs_cons (pg_name (i := 5) sc_is_order.nd rfl (Or.inl rfl)) pgs_nil))))))
      (@pss_cons _ _ _ _ _ (ps_if (PW.pt (pw_or (pt_not (pt_val (pe_call (ok_is_between T) (hr.mono (by decide)) rfl T.m_is_between T.F_is_between.kp T.b_is_between .nil pass0 (@pa_3 _ _ _ _ _ _ _ (pv 2) pe_int (pe_op op_sub (pv 1) pe_int) rfl rfl rfl)))) (pw_or1 (pt_not (pt_val (pe_call (ok_is_between T) (hr.mono (by decide)) rfl T.m_is_between T.F_is_between.kp T.b_is_between .nil pass0 (@pa_3 _ _ _ _ _ _ _ (pv 4) pe_int (pe_op op_sub (pv 1) pe_int) rfl rfl rfl))))))) (@pss_one _ _ _ (ps_ret pe_bl)) pss_nil)
      (@pss_one _ _ _ (ps_ret (pe_and (pe_cmpR op_ne (pv 2) (pv 4) (nomark _)) (pe_and (pe_call (ok_is_between T) (hr.mono (by decide)) rfl T.m_is_between T.F_is_between.kp T.b_is_between .nil pass0 (@pa_3 _ _ _ _ _ _ _ (pv 3) pe_int (pe_glob (v := .int 99) rfl T.c_LAST_NUMBER.choose_spec ⟨_, rfl⟩) rfl rfl rfl)) (pe_one (pe_call (ok_is_between T) (hr.mono (by decide)) rfl T.m_is_between T.F_is_between.kp T.b_is_between .nil pass0 (@pa_3 _ _ _ _ _ _ _ (pv 5) pe_int (pe_glob (v := .int 1000) rfl T.c_MOST_MUCH.choose_spec ⟨_, rfl⟩) rfl rfl rfl)))))))))), ?_⟩
    rcases hx with ⟨z, rfl⟩ | ⟨a, xs, rfl, e, rfl⟩ | ⟨a, xs, rfl, e, th, rfl⟩
    · cases x with
      | non => exact ⟨_, rfl, _, _, _, false, rfl, .non, rfl, _, rfl, iteT k⟩
      | bl b => exact ⟨_, rfl, _, _, _, false, rfl, .bl _, rfl, _, rfl, iteT k⟩
      | int i => exact ⟨_, rfl, _, _, _, false, rfl, .int _, rfl, _, rfl, iteT k⟩
      | str i => exact ⟨_, rfl, _, _, _, false, rfl, .str _, rfl, _, rfl, iteT k⟩
      | _ => cases z
    · exact ⟨_, rfl, _, _, _, false, rfl, .lst e, rfl, _, rfl, iteT k⟩
    · refine ⟨_, rfl, _, _, _, true, rfl, .tup e, rfl, _, rfl, iteF ?_⟩
      refine ⟨_, rfl, a, xs, rfl, .inr (SqT.of e), ?_⟩
      by_cases hl : xs.length = 4
      · match xs, hl with
        | [p, n, g, m], _ =>
          refine ⟨rfl, _, rfl, iteF ?_⟩
          refine ⟨_, rfl, a, _, rfl, SqT.of e, rfl, _, _, rfl, _, _, rfl, _, _, rfl, _, _, rfl, rfl, ?_⟩
          have tp := th p (by simp)
          have tn := th n (by simp)
          have tg := th g (by simp)
          have tm := th m (by simp)
          have fin : ∀ b, b = isOV q [p, n, g, m] → Q (.bl b) H := fun b e => e ▸ k
          refine ⟨_, rfl, _, rfl, _, _, rfl, rfl, _, _, _, rfl, tp, _, rfl, ?_⟩
          cases h1 : isB p 0 (q - 1) with
          | false => exact iteT (fin _ (by simp [isOV, h1]))
          | true =>
            refine iteF ?_
            refine ⟨_, rfl, _, rfl, _, _, rfl, rfl, _, _, _, rfl, tg, _, rfl, ?_⟩
            cases h2 : isB g 0 (q - 1) with
            | false => exact iteT (fin _ (by simp [isOV, h2]))
            | true =>
              refine iteF ?_
              obtain ⟨i, rfl, _, _⟩ := isB_int h1
              obtain ⟨j, rfl, _, _⟩ := isB_int h2
              refine ⟨_, rfl, _, rfl, rfl, _, rfl, ?_⟩
              refine ite2 (fun h3 => ?_) (fun h3 => fin _ ?_)
              · have z3 : ¬ i = j := by simpa using h3
                refine ⟨_, rfl, _, _, _, rfl, tn, _, rfl, ?_⟩
                cases h4 : isB n 0 99 with
                | false => exact iteF (fin _ (by simp [isOV, h4]))
                | true => exact iteT ⟨_, rfl, _, _, _, rfl, tm, fin _ (by simp [isOV, h1, h2, h4, z3])⟩
              · have z3 : i = j := by simpa using h3
                simp [isOV, z3]
      · have e0 : isOV q xs = false := by
          unfold isOV
          split
          · exact absurd rfl hl
          · rfl
        rw [e0] at k
        have hl' : ¬ (xs.length : Int) = 4 := by omega
        refine ⟨rfl, _, rfl, ?_⟩
        refine ite2 (fun _ => k) (fun h1 => ?_)
        exact absurd (by simpa using h1) hl'
def SumIs1 (H : Hp) (y : V) (b : Bool) : Prop := (simple y = true ∧ b = false) ∨ (∃ a xs, y = .ref a ∧ H a = some (.tup xs) ∧ b = false) ∨
  (∃ a xs, y = .ref a ∧ H a = some (.lst xs) ∧ xs.length ≤ 1000 ∧ (∀ z ∈ xs, simple z = true) ∧ b = (decide (2 ≤ xs.length) && xs.all fun z => isB z 0 1000))
def sp_sums1 : Sp := fun vs H Q _ => ∃ y b, vs = [y] ∧ SumIs1 H y b ∧ ∀ H', Same H H' → Q (.bl b) H'
theorem ok_are_sums (T : Txt K mg t) : FnOk P w K mg base CX0 3 t.f_are_sums t.d_are_sums ["thing"] sp_sums1 := by
  refine T.F_are_sums.ok sc_are_sums (fun vs H Q E h => ?_) (fun cdv A outer s H vs Q E hr h => ?_)
  · obtain ⟨y, b, rfl, _⟩ := h
    rfl
  · obtain ⟨y, b, rfl, hy, k⟩ := h
    refine ⟨_, (@pss_cons _ _ _ _ _ (ps_if (PW.pt (pw_or (pt_not (pt_val (pe_callB call_isinst rfl T.n_isinstance boot_isinstance (@pa_2 _ _ _ _ _ (pv 0) (pe_bltn (v := .ty "list") rfl T.n_list boot_list rfl) rfl rfl)))) (pw_or1 (pt_cmpR op_lt (pe_callB call_len_seq rfl T.n_len boot_len (pa_more (pv 0) pa_nil)) (pe_glob (v := .int 2) rfl T.c_LEAST_PURSES.choose_spec ⟨_, rfl⟩) (nomark _))))) (@pss_one _ _ _ (ps_ret pe_bl)) pss_nil)
      (@pss_one _ _ _ (ps_ret (pe_callB (call_all rfl) rfl T.n_all boot_all (pa_more (pe_lcomp (N' := ["each"]) (ix := [none]) (compOk_is (by kernel_rfl)) rfl (@pi_list _ _ _ _ (pv 0)) (fun _ _ _ _ => (pg_name (i := 0) nd_0 rfl (Or.inl rfl) (.inr rfl))) (fun _ _ _ _ => pif_nil) (fun _ _ _ _ => (pe_call (ok_is_between T) (hr.mono (by decide)) rfl T.m_is_between T.F_is_between.kp T.b_is_between .nil pass0 (@pa_3 _ _ _ _ _ _ _ (pv 0) pe_int (pe_glob (v := .int 1000) rfl T.c_MOST_FIRST_SUM.choose_spec ⟨_, rfl⟩) rfl rfl rfl)))) pa_nil))))), ?_⟩
    rcases hy with ⟨z, rfl⟩ | ⟨a, xs, rfl, e, rfl⟩ | ⟨a, xs, rfl, e, hl, hs, rfl⟩
    · cases y with
      | non => exact ⟨_, rfl, _, _, _, false, rfl, .non, rfl, _, rfl, iteT (k _ (Same.refl _))⟩
      | bl b => exact ⟨_, rfl, _, _, _, false, rfl, .bl _, rfl, _, rfl, iteT (k _ (Same.refl _))⟩
      | int i => exact ⟨_, rfl, _, _, _, false, rfl, .int _, rfl, _, rfl, iteT (k _ (Same.refl _))⟩
      | str i => exact ⟨_, rfl, _, _, _, false, rfl, .str _, rfl, _, rfl, iteT (k _ (Same.refl _))⟩
      | _ => cases z
    · exact ⟨_, rfl, _, _, _, false, rfl, .tup e, rfl, _, rfl, iteT (k _ (Same.refl _))⟩
    · refine ⟨_, rfl, _, _, _, true, rfl, .lst e, rfl, _, rfl, iteF ?_⟩
      have fin : ∀ b, b = (decide (2 ≤ xs.length) && xs.all fun z => isB z 0 1000) → ∀ H', Same H H' → Q (.bl b) H' := fun b e => e ▸ k
      refine ⟨_, rfl, a, xs, rfl, .inl (SqL.of e), _, _, rfl, rfl, _, rfl, ?_⟩
      refine ite2 (fun h1 => fin _ ?_ _ (Same.refl _)) (fun h1 => ?_)
      · have h1' : ¬ 2 ≤ xs.length := by have := of_decide_eq_true h1; omega
        rw [decide_eq_false h1', Bool.false_and]
      · have h1' : 2 ≤ xs.length := by
          have : ¬ (xs.length : Int) < 2 := fun z => h1 (decide_eq_true z)
          omega
        refine ⟨_, rfl, a, rfl, ⟨xs, SqL.of e⟩, lc_list (K := K) (a := a) (xs := xs) (fun i ys σ' H' => ∃ v, σ' = [v] ∧ H' = H ∧ ys = ((xs.map fun z => isB z 0 1000).take i).map V.bl) ⟨none, rfl, rfl, rfl⟩ ?_ ?_ ?_⟩
        · rintro i ys σ' H' hi ⟨v, rfl, rfl, rfl⟩
          refine ⟨SqL.of e, len1000 ?_⟩
          rw [List.length_map, List.length_take, List.length_map]
          omega
        · rintro i x ys σ' H' hx ⟨v, rfl, rfl, rfl⟩
          refine tYes_intro ?_
          refine ⟨_, rfl, _, _, _, rfl, .inl (hs x (List.mem_of_getElem? hx)), _, rfl, rfl, ?_⟩
          have eb : (xs.map fun z => isB z 0 1000)[i]? = some (isB x 0 1000) := by rw [List.getElem?_map, hx]; rfl
          rw [take_snoc eb, List.map_append]
          rfl
        · rintro ys σ' H' ⟨v, rfl, rfl, rfl⟩ p hp
          refine ⟨p, (xs.map fun z => isB z 0 1000), rfl, SqL.of ?_, fin _ ?_ _ (same_upd hp)⟩
          · rw [upd_same]
            have el : (xs.map fun z => isB z 0 1000).take xs.length = xs.map fun z => isB z 0 1000 := by
              have := List.take_length (l := xs.map fun z => isB z 0 1000)
              rwa [List.length_map] at this
            rw [el]
          · rw [decide_eq_true h1', Bool.true_and, List.all_map]
            rfl
theorem ok_is_house_count (T : Txt K mg t) : FnOk P w K mg base CX0 3 t.f_is_house_count t.d_is_house_count ["thing"] (fun vs H Q _ => ∃ x, vs = [x] ∧ Thing H x ∧ Q (.bl (isB x 1 16)) H) := by
  refine T.F_is_house_count.ok sc_is_house_count (fun vs H Q E h => ?_) (fun cdv A outer s H vs Q E hr h => ?_)
  · obtain ⟨x, rfl, _⟩ := h
    rfl
  · obtain ⟨x, rfl, th, k⟩ := h
    refine ⟨_, (@pss_one _ _ _ (ps_ret (pe_call (ok_is_between T) (hr.mono (by decide)) rfl T.m_is_between T.F_is_between.kp T.b_is_between .nil pass0 (@pa_3 _ _ _ _ _ _ _ (pv 0) pe_int (pe_glob (v := .int 16) rfl T.c_MOST_HOUSES.choose_spec ⟨_, rfl⟩) rfl rfl rfl)))), ?_⟩
    exact ⟨_, rfl, x, 1, 16, rfl, th, k⟩
theorem ok_is_few (T : Txt K mg t) : FnOk P w K mg base CX0 3 t.f_is_few t.d_is_few ["thing"] (fun vs H Q _ => ∃ x, vs = [x] ∧ Thing H x ∧ Q (.bl (isB x 0 5)) H) := by
  refine T.F_is_few.ok sc_is_few (fun vs H Q E h => ?_) (fun cdv A outer s H vs Q E hr h => ?_)
  · obtain ⟨x, rfl, _⟩ := h
    rfl
  · obtain ⟨x, rfl, th, k⟩ := h
    refine ⟨_, (@pss_one _ _ _ (ps_ret (pe_call (ok_is_between T) (hr.mono (by decide)) rfl T.m_is_between T.F_is_between.kp T.b_is_between .nil pass0 (@pa_3 _ _ _ _ _ _ _ (pv 0) pe_int (pe_glob (v := .int 5) rfl T.c_MOST_FEW.choose_spec ⟨_, rfl⟩) rfl rfl rfl)))), ?_⟩
    exact ⟨_, rfl, x, 0, 5, rfl, th, k⟩
theorem ok_outnumber (T : Txt K mg t) : FnOk P w K mg base CX0 1 t.f_outnumber t.d_outnumber ["houses", "few"] (fun vs H Q _ => ∃ h f : Int, vs = [.int h, .int f] ∧ Q (.bl (decide (h > 3 * f))) H) := by
  refine T.F_outnumber.ok sc_outnumber (fun vs H Q E h => ?_) (fun cdv A outer s H vs Q E hr h => ?_)
  · obtain ⟨i, j, rfl, _⟩ := h
    rfl
  · obtain ⟨i, j, rfl, q⟩ := h
    refine ⟨_, (@pss_one _ _ _ (ps_ret (pe_cmpR op_gt (pv 0) (pe_op op_mul pe_int (pv 1)) (nomark _)))), ?_⟩
    exact ⟨_, rfl, _, rfl, _, _, rfl, rfl, .inl (by decide), _, _, rfl, rfl, q⟩
theorem ok_enough_of (T : Txt K mg t) : FnOk P w K mg base CX0 1 t.f_enough_of t.d_enough_of ["houses", "few"] (fun vs H Q _ => ∃ i j : Int, vs = [.int i, .int j] ∧ Q (.int (i - j)) H) := by
  refine T.F_enough_of.ok sc_enough_of (fun vs H Q E h => ?_) (fun cdv A outer s H vs Q E hr h => ?_)
  · obtain ⟨i, j, rfl, _⟩ := h
    rfl
  · obtain ⟨i, j, rfl, q⟩ := h
    refine ⟨_, (@pss_one _ _ _ (ps_ret (pe_op op_sub (pv 0) (pv 1)))), ?_⟩
    exact ⟨_, rfl, _, rfl, _, _, rfl, rfl, q⟩
def sumOk (xs : List V) : Bool := decide (2 ≤ xs.length ∧ xs.length ≤ 8) && xs.all fun z => isB z 0 1000
def SumIs (H : Hp) (y : V) (b : Bool) : Prop := (simple y = true ∧ b = false) ∨ (∃ a xs, y = .ref a ∧ H a = some (.tup xs) ∧ b = false) ∨
  (∃ a xs, y = .ref a ∧ H a = some (.lst xs) ∧ xs.length ≤ 1000 ∧ (∀ z ∈ xs, simple z = true) ∧ b = sumOk xs)
theorem SumIs.same {H H' : Hp} {y : V} {b : Bool} (s : Same H H') (h : SumIs H y b) : SumIs H' y b := by
  rcases h with h | ⟨a, xs, e, h, z⟩ | ⟨a, xs, e, h, k⟩
  · exact .inl h
  · exact .inr (.inl ⟨a, xs, e, s _ _ h, z⟩)
  · exact .inr (.inr ⟨a, xs, e, s _ _ h, k⟩)
theorem ok_are_first_sums (T : Txt K mg t) : FnOk P w K mg base CX0 4 t.f_are_first_sums t.d_are_first_sums ["thing"] (fun vs H Q _ => ∃ y b, vs = [y] ∧ SumIs H y b ∧ ∀ H', Same H H' → Q (.bl b) H') := by
  refine T.F_are_first_sums.ok sc_are_first_sums (fun vs H Q E h => ?_) (fun cdv A outer s H vs Q E hr h => ?_)
  · obtain ⟨y, b, rfl, _⟩ := h
    rfl
  · obtain ⟨y, b, rfl, hy, k⟩ := h
    refine ⟨_, (@pss_one _ _ _ (ps_ret (pe_and (pe_call (ok_are_sums T) (hr.mono (by decide)) rfl T.m_are_sums T.F_are_sums.kp T.b_are_sums .nil pass0 (pa_more (pv 0) pa_nil)) (pe_one (pe_cmpR op_le (pe_callB call_len_seq rfl T.n_len boot_len (pa_more (pv 0) pa_nil)) (pe_glob (v := .int 8) rfl T.c_MOST_PURSES.choose_spec ⟨_, rfl⟩) (nomark _)))))), ?_⟩
    rcases hy with ⟨z, rfl⟩ | ⟨a, xs, rfl, e, rfl⟩ | ⟨a, xs, rfl, e, hl, hs, rfl⟩
    · exact ⟨_, rfl, y, false, rfl, .inl ⟨z, rfl⟩, fun H1 s1 => ⟨_, rfl, iteF (k _ s1)⟩⟩
    · exact ⟨_, rfl, _, false, rfl, .inr (.inl ⟨a, xs, rfl, e, rfl⟩), fun H1 s1 => ⟨_, rfl, iteF (k _ s1)⟩⟩
    · refine ⟨_, rfl, _, _, rfl, .inr (.inr ⟨a, xs, rfl, e, hl, hs, rfl⟩), fun H1 s1 => ⟨_, rfl, ?_⟩⟩
      have fin : ∀ b, b = sumOk xs → ∀ H', Same H H' → Q (.bl b) H' := fun b e => e ▸ k
      refine ite2 (fun h1 => ?_) (fun h1 => fin _ ?_ _ s1)
      · rw [Bool.and_eq_true] at h1
        refine ⟨_, rfl, a, xs, rfl, .inl (SqL.of (s1 _ _ e)), _, _, rfl, rfl, fin _ ?_ _ s1⟩
        unfold sumOk
        rw [h1.2, Bool.and_true]
        have h2 := of_decide_eq_true h1.1
        rw [Bool.eq_iff_iff, decide_eq_true_iff, decide_eq_true_iff]
        omega
      · unfold sumOk
        cases e1 : decide (2 ≤ xs.length) with
        | false =>
          have e2 := of_decide_eq_false e1
          rw [decide_eq_false (fun z => e2 z.1), Bool.false_and]
        | true =>
          rw [e1, Bool.true_and] at h1
          cases e3 : (xs.all fun z => isB z 0 1000) with
          | true => exact absurd e3 h1
          | false => rw [Bool.and_false]
def nxtV : V → Int
  | .int i => i + 1
  | _ => 0
def risesV : List V → Int → Int → Bool
  | [], _, _ => true
  | x :: r, l, b => isB x l (b - 1) && risesV r (nxtV x) b
def RowAt (H : Hp) (a : Addr) (xs : List V) : Prop := H a = some (.lst xs) ∨ H a = some (.tup xs)
theorem RowAt.same {H H' : Hp} {a : Addr} {xs : List V} (s : Same H H') (h : RowAt H a xs) : RowAt H' a xs := h.imp (s _ _) (s _ _)
theorem RowAt.sq {K : W.Frag} {H : Hp} {a : Addr} {xs : List V} (h : RowAt H a xs) : SqL K H a xs ∨ SqT K H a xs := h.imp SqL.of SqT.of
theorem ok_are_rising (T : Txt K mg t) : FnOk P w K mg base CX0 3 t.f_are_rising t.d_are_rising ["things", "bound"] (fun vs H Q _ => ∃ a b xs, vs = [.ref a, .int b] ∧ RowAt H a xs ∧ (∀ y ∈ xs, simple y = true) ∧ Q (.bl (risesV xs 0 b)) H) := by
  refine T.F_are_rising.ok sc_are_rising (fun vs H Q E h => ?_) (fun cdv A outer s H vs Q E hr h => ?_)
  · obtain ⟨a, b, xs, rfl, _⟩ := h
    rfl
  · obtain ⟨a, b, xs, rfl, ha, sx, k⟩ := h
    refine ⟨_, (@pss_cons _ _ _ _ _ (ps_set (i := 2) sc_are_rising.nd rfl (Or.inl rfl) pe_int)
      (@pss_cons _ _ _ _ _ (ps_for PassesOwn.never rfl (pi_seq (pv 0)) (pg_name (i := 3) sc_are_rising.nd rfl (Or.inl rfl)) (@pss_cons _ _ _ _ _ (ps_if (pt_not (pt_val (pe_call (ok_is_between T) (hr.mono (by decide)) rfl T.m_is_between T.F_is_between.kp T.b_is_between .nil pass0 (@pa_3 _ _ _ _ _ _ _ (pv 3) (pv 2) (pe_op op_sub (pv 1) pe_int) rfl rfl rfl)))) (@pss_one _ _ _ (ps_ret pe_bl)) pss_nil)
      (@pss_one _ _ _ (ps_set (i := 2) sc_are_rising.nd rfl (Or.inl rfl) (pe_op op_add (pv 3) pe_int)))))
      (@pss_one _ _ _ (ps_ret pe_bl)))), ?_⟩
    rcases ha with ha | ha
    · refine .inl ⟨_, rfl, a, rfl, ⟨_, SqL.of ha⟩, for_list (K := K) (a := a) (xs := xs) (fun i σ H' => ∃ v l, σ = [some (.ref a), some (.int b), some (.int l), v] ∧ H' = H ∧ risesV xs 0 b = risesV (xs.drop i) l b) ⟨none, 0, rfl, rfl, rfl⟩ (fun i σ H' _ ⟨_, _, _, e, _⟩ => SqL.of (by rw [e]; exact ha)) ?_ ?_⟩
      · rintro i x σ H' hx ⟨v, l, rfl, rfl, hl⟩
        obtain ⟨hi, ex⟩ := List.getElem?_eq_some_iff.mp hx
        rw [List.drop_eq_getElem_cons hi, ex, risesV] at hl
        refine ⟨_, rfl, _, rfl, _, rfl, _, _, rfl, rfl, x, l, b - 1, rfl, .inl (sx x (List.mem_of_getElem? hx)), _, rfl, ?_⟩
        cases hb : isB x l (b - 1) with
        | false =>
          rw [hb] at hl
          rw [hl] at k
          exact iteT k
        | true =>
          rw [hb] at hl
          obtain ⟨z, rfl, z0, z1⟩ := isB_int hb
          exact iteF ⟨_, rfl, _, _, rfl, rfl, _, _, rfl, rfl, hl⟩
      · rintro σ H' ⟨v, l, rfl, rfl, hl⟩
        rw [List.drop_length] at hl
        rw [hl] at k
        exact k
    · refine .inr ⟨_, rfl, a, rfl, ⟨_, SqT.of ha⟩, for_tup (K := K) (a := a) (xs := xs) (fun i σ H' => ∃ v l, σ = [some (.ref a), some (.int b), some (.int l), v] ∧ H' = H ∧ risesV xs 0 b = risesV (xs.drop i) l b) ⟨none, 0, rfl, rfl, rfl⟩ (fun i σ H' _ ⟨_, _, _, e, _⟩ => SqT.of (by rw [e]; exact ha)) ?_ ?_⟩
      · rintro i x σ H' hx ⟨v, l, rfl, rfl, hl⟩
        obtain ⟨hi, ex⟩ := List.getElem?_eq_some_iff.mp hx
        rw [List.drop_eq_getElem_cons hi, ex, risesV] at hl
        refine ⟨_, rfl, _, rfl, _, rfl, _, _, rfl, rfl, x, l, b - 1, rfl, .inl (sx x (List.mem_of_getElem? hx)), _, rfl, ?_⟩
        cases hb : isB x l (b - 1) with
        | false =>
          rw [hb] at hl
          rw [hl] at k
          exact iteT k
        | true =>
          rw [hb] at hl
          obtain ⟨z, rfl, z0, z1⟩ := isB_int hb
          exact iteF ⟨_, rfl, _, _, rfl, rfl, _, _, rfl, rfl, hl⟩
      · rintro σ H' ⟨v, l, rfl, rfl, hl⟩
        rw [List.drop_length] at hl
        rw [hl] at k
        exact k
def RowIs (H : Hp) (b : Int) (x : V) (r : Bool) (n : Nat) : Prop := (simple x = true ∧ r = false) ∨ (∃ a xs, x = .ref a ∧ RowAt H a xs ∧ (∀ y ∈ xs, simple y = true) ∧ r = risesV xs 0 b ∧ n = xs.length)
theorem RowIs.same {H H' : Hp} {b : Int} {x : V} {r : Bool} {n : Nat} (s : Same H H') (h : RowIs H b x r n) : RowIs H' b x r n := by
  rcases h with h | ⟨a, xs, e, h, k⟩
  · exact .inl h
  · exact .inr ⟨a, xs, e, h.same s, k⟩
theorem Thing.same {H H' : Hp} {x : V} (s : Same H H') (h : Thing H x) : Thing H' x := h.stay (Stay.of s)
theorem simple_kind {x : V} (h : simple x = true) : x = .non ∨ (∃ i, x = .int i) ∨ (∃ y, x = .bl y) ∨ ∃ z, x = .str z := by
  cases x with
  | non => exact .inl rfl
  | int i => exact .inr (.inl ⟨i, rfl⟩)
  | bl y => exact .inr (.inr (.inl ⟨y, rfl⟩))
  | str z => exact .inr (.inr (.inr ⟨z, rfl⟩))
  | _ => cases h
theorem ok_is_rising_row (T : Txt K mg t) : FnOk P w K mg base CX0 4 t.f_is_rising_row t.d_is_rising_row ["thing", "bound"] (fun vs H Q _ => ∃ x b r n, vs = [x, .int b] ∧ RowIs H b x r n ∧ ∀ H', Same H H' → Q (.bl r) H') := by
  refine T.F_is_rising_row.ok sc_is_rising_row (fun vs H Q E h => ?_) (fun cdv A outer s H vs Q E hr h => ?_)
  · obtain ⟨a, b, r, n, rfl, _⟩ := h
    rfl
  · obtain ⟨x, b, r, n, rfl, hx, k⟩ := h
    refine ⟨_, (@pss_one _ _ _ (ps_ret (pe_and (pe_callB call_isSeqA rfl T.n_isinstance boot_isinstance (@pa_2 _ _ _ _ _ (pv 0) (@pe_tup _ _ _ _ _ (@pa_2 _ _ _ _ _ (pe_bltn (v := .ty "list") rfl T.n_list boot_list rfl) (pe_bltn (v := .ty "tuple") rfl T.n_tuple boot_tuple rfl) rfl rfl)) rfl rfl)) (pe_one (pe_call (ok_are_rising T) (hr.mono (by decide)) rfl T.m_are_rising T.F_are_rising.kp T.b_are_rising .nil pass0 (@pa_2 _ _ _ _ _ (pv 0) (pv 1) rfl rfl)))))), ?_⟩
    refine ⟨_, rfl, zs2, fun q hq => ?_⟩
    have s1 := same_upd (o := .tup [.ty "list", .ty "tuple"]) hq
    rcases hx with ⟨sx, rfl⟩ | ⟨a, xs, rfl, ha, sx, rfl, rfl⟩
    · exact ⟨x, q, false, rfl, upd_same, .inr ⟨rfl, simple_kind sx⟩, _, rfl, iteF (k _ s1)⟩
    · have ha1 := ha.same s1
      refine ⟨.ref a, q, true, rfl, upd_same, .inl ⟨rfl, a, rfl, ?_⟩, _, rfl, iteT ⟨_, rfl, _, rfl, a, b, xs, rfl, ha1, sx, k _ s1⟩⟩
      rcases ha1 with z | z
      · exact .inl ⟨_, SqL.of z⟩
      · exact .inr ⟨_, SqT.of z⟩
theorem ok_NoPurse___init__ (T : Txt K mg t) : FnOk P w K mg base CX0 1 t.f_NoPurse___init__ t.d_NoPurse___init__ ["self", "purse"] (fun vs H Q _ => ∃ x v, vs = [.ref x, v] ∧ H x = some (IsExc0 x t.a_NoPurse) ∧ ∀ d, H d = none → Q .non (upd (upd H x (IsExc1 x t.a_NoPurse d)) d (.xd [("purse", v)]))) := by
  refine T.F_NoPurse___init__.ok sc_NoPurse___init__ (fun vs H Q E h => ?_) (fun cdv A outer s H vs Q E hr h => ?_)
  · obtain ⟨x, v, rfl, _⟩ := h
    rfl
  · obtain ⟨x, v, rfl, hx, k⟩ := h
    refine ⟨_, (@pss_one _ _ _ (ps_xset T.xin_NoPurse rfl (pv 0) (pv 1) rfl)), ?_⟩
    exact ⟨_, rfl, _, rfl, x, rfl, hx, k⟩
theorem ok_NoHouse___init__ (T : Txt K mg t) : FnOk P w K mg base CX0 1 t.f_NoHouse___init__ t.d_NoHouse___init__ ["self", "house"] (fun vs H Q _ => ∃ x v, vs = [.ref x, v] ∧ H x = some (IsExc0 x t.a_NoHouse) ∧ ∀ d, H d = none → Q .non (upd (upd H x (IsExc1 x t.a_NoHouse d)) d (.xd [("house", v)]))) := by
  refine T.F_NoHouse___init__.ok sc_NoHouse___init__ (fun vs H Q E h => ?_) (fun cdv A outer s H vs Q E hr h => ?_)
  · obtain ⟨x, v, rfl, _⟩ := h
    rfl
  · obtain ⟨x, v, rfl, hx, k⟩ := h
    refine ⟨_, (@pss_one _ _ _ (ps_xset T.xin_NoHouse rfl (pv 0) (pv 1) rfl)), ?_⟩
    exact ⟨_, rfl, _, rfl, x, rfl, hx, k⟩
theorem xdrop {H : Hp} {ea d : Addr} {X Y Z : HO} (h : H ea = none) (hd : upd H ea X d = none) : H d = none ∧ upd (upd (upd H ea X) ea Y) d Z ea = some Y ∧ Same H (fun b => if b = ea then none else upd (upd (upd H ea X) ea Y) d Z b) ∧ (fun b => if b = ea then none else upd (upd (upd H ea X) ea Y) d Z b) d = some Z := by
  have n1 : d ≠ ea := fun z => by
    rw [z, upd_same] at hd
    cases hd
  have n2 : H d = none := by rw [upd_ne n1] at hd; exact hd
  refine ⟨n2, by rw [upd_ne (Ne.symm n1), upd_same], fun b u e => ?_, ?_⟩
  · have be := ne_of_none e h
    show (if b = ea then none else upd (upd (upd H ea X) ea Y) d Z b) = some u
    rw [if_neg be, upd_ne (ne_of_none e n2), upd_ne be, upd_ne be]
    exact e
  · show (if d = ea then none else upd (upd (upd H ea X) ea Y) d Z d) = some Z
    rw [if_neg n1, upd_same]
theorem ok_check_houses (T : Txt K mg t) : FnOk P w K mg base (CX2 P w) 5 t.f_check_houses t.d_check_houses ["houses", "few", "liars"] (fun vs H Q E => ∃ hs fw fo, vs = [hs, fw, fo] ∧ Thing H hs ∧ Thing H fw ∧
    (((isB hs 1 16 && isB fw 0 5) = false ∧ E (.ref t.a_BadNumber) none H) ∨
     (∃ h f : Int, hs = .int h ∧ fw = .int f ∧ (1 ≤ h ∧ h ≤ 16) ∧ (0 ≤ f ∧ f ≤ 5) ∧ ((h ≤ 3 * f ∧ E (.ref t.a_BadHouses) none H) ∨
       (3 * f < h ∧ ∃ r n, RowIs H h fo r n ∧ ((r = false ∨ f < n) → ∀ H', Same H H' → E (.ref t.a_BadHouses) none H') ∧ (r = true → (n : Int) ≤ f → ∀ H', Same H H' → Q .non H')))))) := by
  refine T.F_check_houses.okY sc_check_houses (fun vs H Q E h => ?_) (fun cdv A outer s H vs Q E hr h => ?_)
  · obtain ⟨hs, fw, fo, rfl, _⟩ := h
    rfl
  · obtain ⟨hs, fw, fo, rfl, th, tf, hc⟩ := h
    refine ⟨_, (@pss_cons _ _ _ _ _ (ps_if (PW.pt (pw_or (pt_not (pt_val (pe_call (ok_is_house_count T) (hr.mono (by decide)) rfl T.m_is_house_count T.F_is_house_count.kp T.b_is_house_count .nil pass0 (pa_more (pv 0) pa_nil)))) (pw_or1 (pt_not (pt_val (pe_call (ok_is_few T) (hr.mono (by decide)) rfl T.m_is_few T.F_is_few.kp T.b_is_few .nil pass0 (pa_more (pv 1) pa_nil))))))) (@pss_one _ _ _ (ps_raise2 rfl T.m_BadNumber T.x_BadNumber (pa_more pe_str pa_nil))) pss_nil)
      (@pss_cons _ _ _ _ _ (ps_if (pt_not (pt_val (pe_callK (ok_outnumber T) (hr.mono (by decide)) rfl T.m_outnumber T.F_outnumber.kp T.bk0_outnumber pass0 (pa_more (pv 0) pa_nil) (pk_cons (pv 1) pk_nil)))) (@pss_one _ _ _ (ps_raise2 rfl T.m_BadHouses T.x_BadHouses (pa_more pe_str pa_nil))) pss_nil)
      (@pss_one _ _ _ (ps_if (PW.pt (pw_or (pt_not (pt_val (pe_call (ok_is_rising_row T) (hr.mono (by decide)) rfl T.m_is_rising_row T.F_is_rising_row.kp T.b_is_rising_row .nil pass0 (@pa_2 _ _ _ _ _ (pv 2) (pv 0) rfl rfl)))) (pw_or1 (pt_cmpR op_gt (pe_callB call_len_seq rfl T.n_len boot_len (pa_more (pv 2) pa_nil)) (pv 1) (nomark _))))) (@pss_one _ _ _ (ps_raise2 rfl T.m_BadHouses T.x_BadHouses (pa_more pe_str pa_nil))) pss_nil)))), ?_⟩
    refine ⟨_, rfl, hs, rfl, th, _, rfl, ?_⟩
    rcases hc with ⟨hc, e1⟩ | ⟨h, f, rfl, rfl, ⟨a1, a2⟩, ⟨a3, a4⟩, hc⟩
    · cases h1 : isB hs 1 16 with
      | false => exact iteT (iteT ⟨zs1, e1⟩)
      | true =>
        refine iteF ?_
        rw [h1, Bool.true_and] at hc
        refine ⟨_, rfl, fw, rfl, tf, _, rfl, ?_⟩
        rw [hc]
        exact iteT ⟨zs1, e1⟩
    · rw [show isB (.int h) 1 16 = true from decide_eq_true ⟨a1, a2⟩]
      refine iteF ⟨_, rfl, _, rfl, tf, _, rfl, ?_⟩
      rw [show isB (.int f) 0 5 = true from decide_eq_true ⟨a3, a4⟩]
      refine iteF ⟨_, rfl, _, rfl, h, f, rfl, _, rfl, ?_⟩
      rcases hc with ⟨lt, e1⟩ | ⟨lt, r, n, hR, e1, k⟩
      · rw [decide_eq_false (by omega)]
        exact iteT ⟨zs1, e1⟩
      · rw [decide_eq_true (by omega)]
        refine iteF ⟨_, rfl, _, rfl, fo, h, r, n, rfl, hR, fun H1 s1 => ⟨_, rfl, ?_⟩⟩
        cases r with
        | false => exact iteT (iteT ⟨zs1, e1 (.inl rfl) _ s1⟩)
        | true =>
          refine iteF ?_
          rcases hR with ⟨_, z⟩ | ⟨a, xs, rfl, ha, sx, _, rfl⟩
          · cases z
          refine ⟨_, rfl, a, xs, rfl, (ha.same s1).sq, _, rfl, _, _, rfl, rfl, _, rfl, ite2 (fun z => ?_) (fun z => ?_)⟩
          · exact ⟨zs1, e1 (.inr (of_decide_eq_true z)) _ s1⟩
          · have z' : ¬ f < (xs.length : Int) := fun y => z (decide_eq_true y)
            exact k rfl (by omega) _ s1
theorem ok_check_purses (T : Txt K mg t) : FnOk P w K mg base (CX2 P w) 5 t.f_check_purses t.d_check_purses ["sums", "cheats"] (fun vs H Q E => ∃ ss ro b, vs = [ss, ro] ∧ SumIs H ss b ∧ (b = false → ∀ H', Same H H' → E (.ref t.a_BadHouses) none H') ∧
    (b = true → ∃ sa xs r n, ss = .ref sa ∧ H sa = some (.lst xs) ∧ RowIs H xs.length ro r n ∧ (r = false → ∀ H', Same H H' → E (.ref t.a_BadHouses) none H') ∧ (r = true → ∀ H', Same H H' → Q .non H'))) := by
  refine T.F_check_purses.okY sc_check_purses (fun vs H Q E h => ?_) (fun cdv A outer s H vs Q E hr h => ?_)
  · obtain ⟨ss, ro, b, rfl, _⟩ := h
    rfl
  · obtain ⟨ss, ro, b, rfl, hs, e1, k⟩ := h
    refine ⟨_, (@pss_cons _ _ _ _ _ (ps_if (pt_not (pt_val (pe_call (ok_are_first_sums T) (hr.mono (by decide)) rfl T.m_are_first_sums T.F_are_first_sums.kp T.b_are_first_sums .nil pass0 (pa_more (pv 0) pa_nil)))) (@pss_one _ _ _ (ps_raise2 rfl T.m_BadHouses T.x_BadHouses (pa_more pe_str pa_nil))) pss_nil)
      (@pss_one _ _ _ (ps_if (pt_not (pt_val (pe_call (ok_is_rising_row T) (hr.mono (by decide)) rfl T.m_is_rising_row T.F_is_rising_row.kp T.b_is_rising_row .nil pass0 (@pa_2 _ _ _ _ _ (pv 1) (pe_callB call_len_seq rfl T.n_len boot_len (pa_more (pv 0) pa_nil)) rfl rfl)))) (@pss_one _ _ _ (ps_raise2 rfl T.m_BadHouses T.x_BadHouses (pa_more pe_str pa_nil))) pss_nil))), ?_⟩
    refine ⟨_, rfl, ss, b, rfl, hs, fun H1 s1 => ⟨_, rfl, ?_⟩⟩
    cases b with
    | false => exact iteT ⟨zs1, e1 rfl _ s1⟩
    | true =>
      refine iteF ?_
      obtain ⟨sa, xs, r, n, rfl, hsa, hR, e2, k⟩ := k rfl
      refine ⟨_, rfl, _, rfl, sa, xs, rfl, .inl (SqL.of (s1 _ _ hsa)), ro, _, r, n, rfl, hR.same s1, fun H2 s2 => ⟨_, rfl, ?_⟩⟩
      cases r with
      | false => exact iteT ⟨zs1, e2 rfl _ (s1.trans s2)⟩
      | true => exact iteF (k rfl _ (s1.trans s2))
theorem ok_Board___init__ (T : Txt K mg t) : FnOk P w K mg base CX0 1 t.f_Board___init__ t.d_Board___init__ ["self", "enough"] (sp_brinit t) := by
  refine T.F_Board___init__.ok sc_Board___init__ (fun vs H Q E h => ?_) (fun cdv A outer s H vs Q E hr h => ?_)
  · obtain ⟨x, dx, en, rfl, _⟩ := h
    rfl
  · obtain ⟨x, dx, en, rfl, hx, k⟩ := h
    refine ⟨_, (@pss_cons _ _ _ _ _ (ps_fld (pv 0) (pv 1) rfl)
      (@pss_one _ _ _ (ps_fld (pv 0) pe_dnewT rfl))), ?_⟩
    refine ⟨_, rfl, _, rfl, x, _, dx, _, rfl, hx, T.cl_Board, T.na_Board_enough, (by show 0 < 1000; decide), fun S hS => ?_⟩
    obtain ⟨Sx, hS0⟩ := upd_none' hS
    refine ⟨_, rfl, x, _, dx, _, rfl, (by rw [upd_ne (Ne.symm Sx), upd_same]), T.cl_Board, T.na_Board_signers, (by show 1 < 1000; decide), ?_⟩
    refine k S _ hS0 ⟨upd_same, by rw [upd_ne Sx]; exact upd_same, .nil, .nil⟩ fun b o e bx => ?_
    rw [upd_ne bx, upd_ne (ne_of_none e hS0), upd_ne bx]
    exact e
theorem ok_Board_is_carried (T : Txt K mg t) : FnOk P w K mg base CX0 1 t.f_Board_is_carried t.d_Board_is_carried ["self", "thing"] (sp_carriedIs t) := by
  refine T.F_Board_is_carried.ok sc_Board_is_carried (fun vs H Q E h => ?_) (fun cdv A outer s H vs Q E hr h => ?_)
  · obtain ⟨p, dx, S, en, kvs, ps, b, k, rfl, _⟩ := h
    rfl
  · obtain ⟨p, dx, S, en, kvs, ps, b, k, rfl, B, hb, q⟩ := h
    refine ⟨_, (@pss_one _ _ _ (ps_ret (pe_cmpR op_ge (pe_callB call_len_seq rfl T.n_len boot_len (pa_more (pe_dget2 (hu_of hr) (pe_fld (pv 0) rfl) (pv 1) (@pe_lst _ _ _ _ pa_nil) ⟨rfl, rfl, rfl, rfl⟩) pa_nil)) (pe_fld (pv 0) rfl) (nomark _)))), ?_⟩
    refine ⟨_, rfl, p, _, dx, _, _, rfl, B.ob, T.cl_Board, T.na_Board_signers, brd_signers _ _, S, rfl, .inr ⟨kvs, B.sg⟩, _, rfl, zs0, fun r hr => ?_⟩
    have s1 := same_upd (o := .lst []) hr
    refine ⟨_, .inr ⟨kvs, k, b, rd_same s1 B.sg, rfl, s1 _ _ hb, rfl⟩, ?_⟩
    rcases val_houses (k := k) B.hs with ⟨h1, h2, h3⟩ | ⟨c, h1, h2⟩
    · rw [h1]
      refine ⟨r, [], rfl, .inl (SqL.of upd_same), _, rfl, p, _, dx, _, _, rfl, s1 _ _ B.ob, T.cl_Board, T.na_Board_enough, brd_enough _ _, _, _, rfl, rfl, ?_⟩
      have := q _ s1
      rw [h2] at this
      exact this
    · rw [h1]
      refine ⟨c, _, rfl, .inl (SqL.of (s1 _ _ h2)), _, rfl, p, _, dx, _, _, rfl, s1 _ _ B.ob, T.cl_Board, T.na_Board_enough, brd_enough _ _, _, _, rfl, rfl, ?_⟩
      rw [List.length_map]
      exact q _ s1
def bkf (he nn dn : Addr) : List (Str × V) := putF "done" (.ref dn) (putF "next_numbers" (.ref nn) (putF "held" (.ref he) []))
def kf (he nn dn hd un cs wt : Addr) : List (Str × V) := putF "waiting" (.ref wt) (putF "choices" (.ref cs) (putF "unvoted" (.ref un) (putF "heard" (.ref hd) (bkf he nn dn))))
theorem kf_held (he nn dn hd un cs wt : Addr) : (kf he nn dn hd un cs wt).lookup ("held" : Str) = some (.ref he) := by
  unfold kf bkf
  repeat (first | rw [lookup_putF, if_pos rfl] | rw [lookup_putF, if_neg (by decide +kernel)])
theorem kf_no (he nn dn hd un cs wt : Addr) {m : Str} (h : ¬ m = "waiting" ∧ ¬ m = "choices" ∧ ¬ m = "unvoted" ∧ ¬ m = "heard" ∧ ¬ m = "done" ∧ ¬ m = "next_numbers" ∧ ¬ m = "held") : (kf he nn dn hd un cs wt).lookup m = none := by
  obtain ⟨h1, h2, h3, h4, h5, h6, h7⟩ := h
  unfold kf bkf
  rw [lookup_putF, if_neg h1, lookup_putF, if_neg h2, lookup_putF, if_neg h3, lookup_putF, if_neg h4, lookup_putF, if_neg h5, lookup_putF, if_neg h6, lookup_putF, if_neg h7]
  rfl
abbrev Frm (H : Hp) (x : Addr) (G : Hp) : Prop := ∀ b u, H b = some u → b ≠ x → G b = some u
theorem Frm.new {H G : Hp} {x p : Addr} {o : HO} (f : Frm H x G) (n : G p = none) : Frm H x (upd G p o) := fun b u e bx => by
  have := f b u e bx
  rw [upd_ne (ne_of_none this n)]
  exact this
theorem Frm.obj {H G : Hp} {x : Addr} {o : HO} (f : Frm H x G) : Frm H x (upd G x o) := fun b u e bx => by
  rw [upd_ne bx]
  exact f b u e bx
theorem Frm.none {H G : Hp} {x p : Addr} {o : HO} (f : Frm H x G) (hx : G x = some o) (n : G p = .none) : H p = .none := by
  cases e : H p with
  | none => rfl
  | some u =>
    have := f p u e (ne_of_none hx n).symm
    rw [n] at this
    cases this
theorem ok_Book___init__ (T : Txt K mg t) : FnOk P w K mg base CX0 1 t.f_Book___init__ t.d_Book___init__ ["self", "sums"] (fun vs H Q _ => ∃ x dx sa, ∃ ns : List Int, vs = [.ref x, .ref sa] ∧ H x = some (.ins t.a_Keeper dx []) ∧ H sa = some (.lst (ns.map V.int)) ∧ ns.length ≤ 1000 ∧
    ∀ he nn dn H', H he = none → H' x = some (.ins t.a_Keeper dx (bkf he nn dn)) → H' he = some (.lst (ns.map V.int)) → (∀ b u, H b = some u → b ≠ x → H' b = some u) → Q .non H') := by
  refine T.F_Book___init__.ok sc_Book___init__ (fun vs H Q E h => ?_) (fun cdv A outer s H vs Q E hr h => ?_)
  · obtain ⟨x, dx, sa, ns, rfl, _⟩ := h
    rfl
  · obtain ⟨x, dx, sa, ns, rfl, hx, hs, ln, k⟩ := h
    refine ⟨_, (@pss_cons _ _ _ _ _ (ps_fld (pv 0) (pe_callTy call_list_of rfl T.n_list boot_list (pa_more (pv 1) pa_nil)) rfl)
      (@pss_cons _ _ _ _ _ (ps_fld (pv 0) (pe_op op_rep (@pe_lst _ _ _ _ (pa_more pe_int pa_nil)) (pe_callB call_len_seq rfl T.n_len boot_len (pa_more (pv 1) pa_nil))) rfl)
      (@pss_one _ _ _ (ps_fld (pv 0) (@pe_lst _ _ _ _ pa_nil) rfl)))), ?_⟩
    refine ⟨_, rfl, sa, _, rfl, .inl (SqL.of hs), fun he nh => ?_⟩
    have xh : x ≠ he := ne_of_none hx nh
    have f1 : Frm H x (upd H he (.lst (ns.map V.int))) := Frm.new (fun b u e _ => e) nh
    refine ⟨_, rfl, x, _, dx, _, rfl, (by rw [upd_ne xh]; exact hx), T.cl_Keeper, T.na_Keeper_held, (by show 0 < 1000; decide), ?_⟩
    have f2 := Frm.obj (o := .ins t.a_Keeper dx (putF "held" (.ref he) [])) f1
    have g2 : upd (upd H he (.lst (ns.map V.int))) x (.ins t.a_Keeper dx (putF "held" (.ref he) [])) he = some (.lst (ns.map V.int)) := by rw [upd_ne (Ne.symm xh)]; exact upd_same
    have h2 : upd (upd H he (.lst (ns.map V.int))) x (.ins t.a_Keeper dx (putF "held" (.ref he) [])) x = some (.ins t.a_Keeper dx (putF "held" (.ref he) [])) := upd_same
    dsimp only
    generalize upd (upd H he (.lst (ns.map V.int))) x (.ins t.a_Keeper dx (putF "held" (.ref he) [])) = G at f2 g2 h2
    have sx : sa ≠ x := ne_of hs hx (by intro z; cases z)
    refine ⟨zs1, fun z1 n1 => ⟨_, rfl, sa, _, rfl, .inl (SqL.of ((same_upd n1) _ _ (f2 _ _ hs sx))), ?_⟩⟩
    have s1 := same_upd (o := .lst [.int 0]) n1
    have f3 := Frm.new (o := .lst [.int 0]) f2 n1
    refine ⟨z1, _, [.int 0], rfl, rfl, upd_same, ?_, ?_, ?_, fun nn n2 => ?_⟩
    · omega
    · rw [List.length_map]; have := line63; omega
    · rw [List.length_map]; exact len1000 (by simp; omega)
    have s2 := same_upd (o := .lst (List.replicate (((ns.map V.int).length : Nat) : Int).toNat [V.int 0]).flatten) n2
    have f4 := Frm.new (o := .lst (List.replicate (((ns.map V.int).length : Nat) : Int).toNat [V.int 0]).flatten) f3 n2
    have h4 := s2 _ _ (s1 _ _ h2)
    have g4 := s2 _ _ (s1 _ _ g2)
    generalize upd (upd G z1 (.lst [.int 0])) nn (.lst (List.replicate (((ns.map V.int).length : Nat) : Int).toNat [V.int 0]).flatten) = G4 at f4 h4 g4
    refine ⟨_, rfl, x, _, dx, _, rfl, h4, T.cl_Keeper, T.na_Keeper_next_numbers, (by show 1 < 1000; decide), ?_⟩
    have f5 := Frm.obj (o := .ins t.a_Keeper dx (putF "next_numbers" (.ref nn) (putF "held" (.ref he) []))) f4
    have g5 : upd G4 x (.ins t.a_Keeper dx (putF "next_numbers" (.ref nn) (putF "held" (.ref he) []))) he = some (.lst (ns.map V.int)) := by rw [upd_ne (Ne.symm xh)]; exact g4
    have h5 : upd G4 x (.ins t.a_Keeper dx (putF "next_numbers" (.ref nn) (putF "held" (.ref he) []))) x = _ := upd_same
    dsimp only
    generalize upd G4 x (.ins t.a_Keeper dx (putF "next_numbers" (.ref nn) (putF "held" (.ref he) []))) = G5 at f5 g5 h5
    refine ⟨zs0, fun dn n3 => ⟨_, rfl, x, _, dx, _, rfl, (same_upd n3) _ _ h5, T.cl_Keeper, T.na_Keeper_done, (by show 2 < 1000; decide), ?_⟩⟩
    exact k he nn dn _ nh upd_same (by rw [upd_ne (Ne.symm xh)]; exact (same_upd n3) _ _ g5) (Frm.obj (Frm.new f5 n3))
theorem ok_Book_is_past (T : Txt K mg t) : FnOk P w K mg base CX0 1 t.f_Book_is_past t.d_Book_is_past ["self", "order"] (fun _ _ _ _ => False) := by
  refine T.F_Book_is_past.ok sc_Book_is_past (fun vs H Q E h => h.elim) (fun cdv A outer s H vs Q E hr h => h.elim)
theorem ok_Keeper___init__ (T : Txt K mg t) : FnOk P w K mg base CX0 2 t.f_Keeper___init__ t.d_Keeper___init__ ["self", "sums"] (fun vs H Q _ => ∃ x dx sa, ∃ ns : List Int, vs = [.ref x, .ref sa] ∧ H x = some (.ins t.a_Keeper dx []) ∧ H sa = some (.lst (ns.map V.int)) ∧ ns.length ≤ 1000 ∧
    ∀ he nn dn hd un cs wt H', H he = none → H' x = some (.ins t.a_Keeper dx (kf he nn dn hd un cs wt)) → H' he = some (.lst (ns.map V.int)) → (∀ b u, H b = some u → b ≠ x → H' b = some u) → Q .non H') := by
  refine T.F_Keeper___init__.ok sc_Keeper___init__ (fun vs H Q E h => ?_) (fun cdv A outer s H vs Q E hr h => ?_)
  · obtain ⟨x, dx, sa, ns, rfl, _⟩ := h
    rfl
  · obtain ⟨x, dx, sa, ns, rfl, hx, hs, ln, k⟩ := h
    refine ⟨_, (@pss_cons _ _ _ _ _ (ps_expr (pe_clsM rfl T.m_Book T.cm_Book___init__ (ok_Book___init__ T) (hr.mono (by decide)) T.b_Book___init__ .nil pass0 (@pa_2 _ _ _ _ _ (pv 0) (pv 1) rfl rfl)))
      (@pss_cons _ _ _ _ _ (ps_fld (pv 0) pe_dnewK rfl)
      (@pss_cons _ _ _ _ _ (ps_fld (pv 0) (@pe_lst _ _ _ _ pa_nil) rfl)
      (@pss_cons _ _ _ _ _ (ps_fld (pv 0) pe_dnewK rfl)
      (@pss_one _ _ _ (ps_fld (pv 0) (@pe_lst _ _ _ _ pa_nil) rfl)))))), ?_⟩
    refine ⟨_, rfl, _, rfl, x, dx, sa, ns, rfl, hx, hs, ln, fun he nn dn H1 nh h1 g1 f1 => ?_⟩
    have xh : he ≠ x := ne_of g1 h1 (by intro z; cases z)
    refine fun hd n1 => ⟨_, rfl, x, _, dx, _, rfl, (same_upd n1) _ _ h1, T.cl_Keeper, T.na_Keeper_heard, (by show 3 < 1000; decide), ?_⟩
    have f2 := Frm.obj (o := .ins t.a_Keeper dx (putF "heard" (.ref hd) (bkf he nn dn))) (Frm.new (o := .dK []) f1 n1)
    have g2 : upd (upd H1 hd (.dK [])) x (.ins t.a_Keeper dx (putF "heard" (.ref hd) (bkf he nn dn))) he = some (.lst (ns.map V.int)) := by rw [upd_ne xh]; exact (same_upd n1) _ _ g1
    have h2 : upd (upd H1 hd (.dK [])) x (.ins t.a_Keeper dx (putF "heard" (.ref hd) (bkf he nn dn))) x = _ := upd_same
    dsimp only
    generalize upd (upd H1 hd (.dK [])) x (.ins t.a_Keeper dx (putF "heard" (.ref hd) (bkf he nn dn))) = G2 at f2 g2 h2
    refine ⟨zs0, fun un n2 => ⟨_, rfl, x, _, dx, _, rfl, (same_upd n2) _ _ h2, T.cl_Keeper, T.na_Keeper_unvoted, (by show 4 < 1000; decide), ?_⟩⟩
    have f3 := Frm.obj (o := .ins t.a_Keeper dx (putF "unvoted" (.ref un) (putF "heard" (.ref hd) (bkf he nn dn)))) (Frm.new (o := .lst []) f2 n2)
    have g3 : upd (upd G2 un (.lst [])) x (.ins t.a_Keeper dx (putF "unvoted" (.ref un) (putF "heard" (.ref hd) (bkf he nn dn)))) he = some (.lst (ns.map V.int)) := by rw [upd_ne xh]; exact (same_upd n2) _ _ g2
    have h3 : upd (upd G2 un (.lst [])) x (.ins t.a_Keeper dx (putF "unvoted" (.ref un) (putF "heard" (.ref hd) (bkf he nn dn)))) x = _ := upd_same
    dsimp only
    generalize upd (upd G2 un (.lst [])) x (.ins t.a_Keeper dx (putF "unvoted" (.ref un) (putF "heard" (.ref hd) (bkf he nn dn)))) = G3 at f3 g3 h3
    refine fun cs n3 => ⟨_, rfl, x, _, dx, _, rfl, (same_upd n3) _ _ h3, T.cl_Keeper, T.na_Keeper_choices, (by show 5 < 1000; decide), ?_⟩
    have f4 := Frm.obj (o := .ins t.a_Keeper dx (putF "choices" (.ref cs) (putF "unvoted" (.ref un) (putF "heard" (.ref hd) (bkf he nn dn))))) (Frm.new (o := .dK []) f3 n3)
    have g4 : upd (upd G3 cs (.dK [])) x (.ins t.a_Keeper dx (putF "choices" (.ref cs) (putF "unvoted" (.ref un) (putF "heard" (.ref hd) (bkf he nn dn))))) he = some (.lst (ns.map V.int)) := by rw [upd_ne xh]; exact (same_upd n3) _ _ g3
    have h4 : upd (upd G3 cs (.dK [])) x (.ins t.a_Keeper dx (putF "choices" (.ref cs) (putF "unvoted" (.ref un) (putF "heard" (.ref hd) (bkf he nn dn))))) x = _ := upd_same
    dsimp only
    generalize upd (upd G3 cs (.dK [])) x (.ins t.a_Keeper dx (putF "choices" (.ref cs) (putF "unvoted" (.ref un) (putF "heard" (.ref hd) (bkf he nn dn))))) = G4 at f4 g4 h4
    refine ⟨zs0, fun wt n4 => ⟨_, rfl, x, _, dx, _, rfl, (same_upd n4) _ _ h4, T.cl_Keeper, T.na_Keeper_waiting, (by show 6 < 1000; decide), ?_⟩⟩
    exact k he nn dn hd un cs wt _ nh upd_same (by rw [upd_ne xh]; exact (same_upd n4) _ _ g4) (Frm.obj (Frm.new f4 n4))
def KeepAt (t : Ad) (H : Hp) (k : Addr) (ns : List Int) : Prop := ∃ dk he nn dn hd un cs wt, H k = some (.ins t.a_Keeper dk (kf he nn dn hd un cs wt)) ∧ H he = some (.lst (ns.map V.int))
theorem KeepAt.same {t : Ad} {H H' : Hp} {k : Addr} {ns : List Int} (s : Same H H') (h : KeepAt t H k ns) : KeepAt t H' k ns := by
  obtain ⟨dk, he, nn, dn, hd, un, cs, wt, h1, h2⟩ := h
  exact ⟨dk, he, nn, dn, hd, un, cs, wt, s _ _ h1, s _ _ h2⟩
theorem ok_Keeper_left_of (T : Txt K mg t) : FnOk P w K mg base CX0 2 t.f_Keeper_left_of t.d_Keeper_left_of ["self", "purse", "orders"] (fun vs H Q _ => ∃ x ns r i z, vs = [.ref x, .int i, .ref r] ∧ KeepAt t H x ns ∧ H r = some (.lst []) ∧ 0 ≤ i ∧ ns[i.toNat]? = some z ∧ ∀ H', Same H H' → Q (.int z) H') := by
  refine T.F_Keeper_left_of.ok sc_Keeper_left_of (fun vs H Q E h => ?_) (fun cdv A outer s H vs Q E hr h => ?_)
  · obtain ⟨x, ns, r, i, z, rfl, _⟩ := h
    rfl
  · obtain ⟨x, ns, r, i, z, rfl, ⟨dk, he, nn, dn, hd, un, cs, wt, h1, h2⟩, hr0, i0, ez, k⟩ := h
    refine ⟨_, (@pss_one _ _ _ (ps_ret (pe_op op_sub (pe_ix ix_list (pe_fld (pv 0) rfl) (pv 1) (fun _ _ => rfl)) (pe_callB (call_sum rfl) rfl T.n_sum boot_sum (pa_more (pe_lcomp (N' := ["order", "self"]) (ix := [none, some 0]) (compOk_is (by kernel_rfl)) rfl (@pi_list _ _ _ _ (pv 2)) (fun _ _ _ _ => (pg_name (i := 0) nd_1 rfl (Or.inl rfl) (.inr rfl))) (fun _ _ _ _ => (pif_one (pt_not (pt_val (pe_meth (pv 1) T.cl_Keeper T.mt_Keeper_is_past (ok_Book_is_past T) (hr.mono (by decide)) T.b_Book_is_past .nil pass0 (pa_more (pv 0) pa_nil)))))) (fun _ _ _ _ => (pe_ix (ix_tupK (K := K) rfl) (pv 0) pe_int (fun _ _ => rfl)))) pa_nil))))), ?_⟩
    refine ⟨_, rfl, x, _, dk, _, _, rfl, h1, T.cl_Keeper, T.na_Keeper_held, kf_held _ _ _ _ _ _ _, _, rfl, he, _, i, .int z, rfl, rfl, SqL.of h2, atI_of i0 (by rw [List.getElem?_map, ez]; rfl), ?_⟩
    refine ⟨_, rfl, r, rfl, ⟨_, SqL.of hr0⟩, lc_list (K := K) (a := r) (xs := []) (fun i ys σ H' => σ = [none, some (.ref x)] ∧ H' = H ∧ ys = []) ⟨rfl, rfl, rfl⟩ ?_ ?_ ?_⟩
    · rintro i ys σ H' hi ⟨rfl, rfl, rfl⟩
      exact ⟨SqL.of hr0, by show 0 ≤ sizeLine; decide⟩
    · rintro i y ys σ H' hy _
      simp at hy
    · rintro ys σ H' ⟨rfl, rfl, rfl⟩ p hp
      refine ⟨p, [], rfl, SqL.of upd_same, _, _, rfl, rfl, ?_⟩
      have := k _ (same_upd (o := .lst []) hp)
      show Q (.int (z - 0)) _
      rw [Int.sub_zero]
      exact this
def wof (n tot : Int) (ly ch kd bd ak wy : Addr) : List (Str × V) := putF "on_way" (.ref wy) (putF "asked" (.ref ak) (putF "board" (.ref bd) (putF "keepers" (.ref kd) (putF "cheating" (.ref ch) (putF "lying" (.ref ly) (putF "total" (.int tot) (putF "purses" (.int n) [])))))))
theorem wof_purses (n tot : Int) (ly ch kd bd ak wy : Addr) : (wof n tot ly ch kd bd ak wy).lookup ("purses" : Str) = some (.int n) := by
  unfold wof
  repeat (first | rw [lookup_putF, if_pos rfl] | rw [lookup_putF, if_neg (by decide +kernel)])
theorem wof_lying (n tot : Int) (ly ch kd bd ak wy : Addr) : (wof n tot ly ch kd bd ak wy).lookup ("lying" : Str) = some (.ref ly) := by
  unfold wof
  repeat (first | rw [lookup_putF, if_pos rfl] | rw [lookup_putF, if_neg (by decide +kernel)])
theorem wof_cheating (n tot : Int) (ly ch kd bd ak wy : Addr) : (wof n tot ly ch kd bd ak wy).lookup ("cheating" : Str) = some (.ref ch) := by
  unfold wof
  repeat (first | rw [lookup_putF, if_pos rfl] | rw [lookup_putF, if_neg (by decide +kernel)])
theorem wof_keepers (n tot : Int) (ly ch kd bd ak wy : Addr) : (wof n tot ly ch kd bd ak wy).lookup ("keepers" : Str) = some (.ref kd) := by
  unfold wof
  repeat (first | rw [lookup_putF, if_pos rfl] | rw [lookup_putF, if_neg (by decide +kernel)])
theorem wof_board (n tot : Int) (ly ch kd bd ak wy : Addr) : (wof n tot ly ch kd bd ak wy).lookup ("board" : Str) = some (.ref bd) := by
  unfold wof
  repeat (first | rw [lookup_putF, if_pos rfl] | rw [lookup_putF, if_neg (by decide +kernel)])
theorem wof_asked (n tot : Int) (ly ch kd bd ak wy : Addr) : (wof n tot ly ch kd bd ak wy).lookup ("asked" : Str) = some (.ref ak) := by
  unfold wof
  repeat (first | rw [lookup_putF, if_pos rfl] | rw [lookup_putF, if_neg (by decide +kernel)])
theorem wof_on_way (n tot : Int) (ly ch kd bd ak wy : Addr) : (wof n tot ly ch kd bd ak wy).lookup ("on_way" : Str) = some (.ref wy) := by
  unfold wof
  repeat (first | rw [lookup_putF, if_pos rfl] | rw [lookup_putF, if_neg (by decide +kernel)])
theorem wof_no (n tot : Int) (ly ch kd bd ak wy : Addr) {m : Str} (h : ¬ m = "on_way" ∧ ¬ m = "asked" ∧ ¬ m = "board" ∧ ¬ m = "keepers" ∧ ¬ m = "cheating" ∧ ¬ m = "lying" ∧ ¬ m = "total" ∧ ¬ m = "purses") : (wof n tot ly ch kd bd ak wy).lookup m = none := by
  obtain ⟨h1, h2, h3, h4, h5, h6, h7, h8⟩ := h
  unfold wof
  rw [lookup_putF, if_neg h1, lookup_putF, if_neg h2, lookup_putF, if_neg h3, lookup_putF, if_neg h4, lookup_putF, if_neg h5, lookup_putF, if_neg h6, lookup_putF, if_neg h7, lookup_putF, if_neg h8]
  rfl
def KeepO (t : Ad) (old H : Hp) (k : Addr) (ns : List Int) : Prop := ∃ dk he nn dn hd un cs wt, H k = some (.ins t.a_Keeper dk (kf he nn dn hd un cs wt)) ∧ H he = some (.lst (ns.map V.int)) ∧ old he = none
theorem KeepO.at_ {t : Ad} {old H : Hp} {k : Addr} {ns : List Int} (h : KeepO t old H k ns) : KeepAt t H k ns := by
  obtain ⟨dk, he, nn, dn, hd, un, cs, wt, h1, h2, _⟩ := h
  exact ⟨dk, he, nn, dn, hd, un, cs, wt, h1, h2⟩
theorem KeepO.same {t : Ad} {old H H' : Hp} {k : Addr} {ns : List Int} (s : Same H H') (h : KeepO t old H k ns) : KeepO t old H' k ns := by
  obtain ⟨dk, he, nn, dn, hd, un, cs, wt, h1, h2, h3⟩ := h
  exact ⟨dk, he, nn, dn, hd, un, cs, wt, s _ _ h1, s _ _ h2, h3⟩
structure Wo where
  x : Addr
  dx : Addr
  n : Int
  tot : Int
  ly : Addr
  ch : Addr
  kd : Addr
  bd : Addr
  ak : Addr
  wy : Addr
  db : Addr
  S : Addr
  en : Int
  lv : List V
  cv : List V
  ns : List Int
  kvs : List (Key × V)
  ros : List Addr
  old : Hp
abbrev Wo.fs (W : Wo) : List (Str × V) := wof W.n W.tot W.ly W.ch W.kd W.bd W.ak W.wy
structure WoC (t : Ad) (H : Hp) (W : Wo) (row : Nat → List V) (way : List V) : Prop where
  ob : H W.x = some (.ins t.a_World W.dx W.fs)
  ch : H W.ch = some (.lst W.cv)
  ak : H W.ak = some (.lst (W.ros.map V.ref))
  ro : ∀ i r, W.ros[i]? = some r → H r = some (.lst (row i))
  bd : BoardAt t H W.bd W.db W.S W.en [] []
  wy : H W.wy = some (.lst way)
  cf : W.cv.all flatV = true
  nw : W.old W.ch = none ∧ W.old W.ak = none ∧ W.old W.wy = none ∧ ∀ r ∈ W.ros, W.old r = none
theorem WoC.same {t : Ad} {H H' : Hp} {W : Wo} {row : Nat → List V} {way : List V} (s : Same H H') (w : WoC t H W row way) : WoC t H' W row way :=
  ⟨s _ _ w.ob, s _ _ w.ch, s _ _ w.ak, fun i r e => s _ _ (w.ro i r e), w.bd.same s, s _ _ w.wy, w.cf, w.nw⟩
structure WoAt (t : Ad) (H : Hp) (W : Wo) : Prop where
  c : WoC t H W (fun _ => []) []
  ly : H W.ly = some (.lst W.lv)
  kd : H W.kd = some (.dK W.kvs)
  kp : ∀ kv ∈ W.kvs, ∃ k, kv.2 = .ref k ∧ KeepO t W.old H k W.ns
  lf : W.lv.all flatV = true
  nl : W.old W.ly = none
theorem WoAt.same {t : Ad} {H H' : Hp} {W : Wo} (s : Same H H') (w : WoAt t H W) : WoAt t H' W :=
  ⟨w.c.same s, s _ _ w.ly, s _ _ w.kd, fun kv h => let ⟨k, e, q⟩ := w.kp kv h; ⟨k, e, q.same s⟩, w.lf, w.nl⟩
def Apart (W : Wo) : Prop := W.wy ≠ W.ch ∧ W.wy ≠ W.ak ∧ (∀ r ∈ W.ros, r ≠ W.ch ∧ r ≠ W.ak ∧ r ≠ W.wy) ∧ W.ros.Nodup
def honN (fs : List V) (n : Nat) : List Int := ((List.range n).map Int.ofNat).filter fun i => !inV (.int i) fs
def IsNum (H : Hp) (hs fw : V) : Prop := Thing H hs ∧ Thing H fw ∧ (isB hs 1 16 && isB fw 0 5) = false
def IsHou (H : Hp) (hs fw ss fo ro : V) : Prop := ∃ h f : Int, hs = .int h ∧ fw = .int f ∧ (1 ≤ h ∧ h ≤ 16) ∧ (0 ≤ f ∧ f ≤ 5) ∧ (h ≤ 3 * f ∨ (3 * f < h ∧ ∃ r n, RowIs H h fo r n ∧ ((r = false ∨ f < n) ∨ (r = true ∧ (n : Int) ≤ f ∧ ∃ b, SumIs H ss b ∧
  (b = false ∨ (b = true ∧ ∃ sa xs n', ss = .ref sa ∧ H sa = some (.lst xs) ∧ RowIs H xs.length ro false n'))))))
def IsTold (H : Hp) (hs fw ss fo ro : V) (h f : Int) (ns : List Int) (fs rs : List V) : Prop := hs = .int h ∧ fw = .int f ∧ (1 ≤ h ∧ h ≤ 16) ∧ (0 ≤ f ∧ f ≤ 5) ∧ 3 * f < h ∧ ∃ fa sa ra, fo = .ref fa ∧ RowAt H fa fs ∧ (∀ y ∈ fs, simple y = true) ∧ risesV fs 0 h = true ∧ (fs.length : Int) ≤ f ∧
  ss = .ref sa ∧ H sa = some (.lst (ns.map V.int)) ∧ SumIs H ss true ∧ ro = .ref ra ∧ RowAt H ra rs ∧ (∀ y ∈ rs, simple y = true) ∧ risesV rs 0 ns.length = true
def sp_woinit (t : Ad) : Sp := fun vs H Q E => ∃ x dx hs fw ss fo ro, vs = [.ref x, hs, fw, ss, fo, ro] ∧ H x = some (.ins t.a_World dx []) ∧
  ((IsNum H hs fw ∧ ∀ H', Same H H' → E (.ref t.a_BadNumber) none H') ∨ (IsHou H hs fw ss fo ro ∧ ∀ H', Same H H' → E (.ref t.a_BadHouses) none H') ∨
   (∃ h f ns fs rs, IsTold H hs fw ss fo ro h f ns fs rs ∧ ∀ W H', Frm H x H' → WoAt t H' W → Apart W → W.x = x → W.n = ns.length → W.lv = fs → W.cv = rs → W.ns = ns → W.kvs.map (·.1) = (honN fs h.toNat).map Sum.inl → W.ros.length = ns.length → W.en = h - f → W.old = H → Q .non H'))
theorem rises_int : ∀ {xs : List V} {l b : Int}, risesV xs l b = true → ∀ y ∈ xs, ∃ i, y = .int i
  | [], _, _, _, y, hy => by cases hy
  | x :: xs, l, b, h, y, hy => by
    rw [risesV, Bool.and_eq_true] at h
    rcases List.mem_cons.mp hy with rfl | hy
    · obtain ⟨z, rfl, _⟩ := isB_int h.1
      exact ⟨z, rfl⟩
    · exact rises_int h.2 y hy
theorem valV_out {kvs : List (Key × V)} {k : Key} (h : ¬ k ∈ kvs.map (·.1)) : valV kvs k = none := by
  cases e : valV kvs k with
  | none => rfl
  | some v => exact absurd (valV_in e) h
theorem honN_succ (fs : List V) (n : Nat) : honN fs (n + 1) = honN fs n ++ (if (!inV (.int n) fs) = true then [(n : Int)] else []) := by
  unfold honN
  rw [List.range_succ, List.map_append, List.filter_append, List.map_cons, List.map_nil, List.filter_cons, List.filter_nil]
  rfl
theorem honN_lt {fs : List V} {n : Nat} {i : Int} (h : i ∈ honN fs n) : i < n := by
  unfold honN at h
  obtain ⟨h, _⟩ := List.mem_filter.mp h
  obtain ⟨j, hj, rfl⟩ := List.mem_map.mp h
  have := List.mem_range.mp hj
  show (j : Int) < n
  omega
theorem honN_len (fs : List V) (n : Nat) : (honN fs n).length ≤ n := by
  unfold honN
  refine Nat.le_trans (List.length_filter_le _ _) ?_
  rw [List.length_map, List.length_range]
  exact Nat.le_refl _
theorem KeepO.updD {t : Ad} {old H : Hp} {k D : Addr} {ns : List Int} {kvs : List (Key × V)} {o : HO} (hD : H D = some (.dK kvs)) (h : KeepO t old H k ns) : KeepO t old (upd H D o) k ns := by
  obtain ⟨dk, he, nn, dn, hd, un, cs, wt, h1, h2, h3⟩ := h
  exact ⟨dk, he, nn, dn, hd, un, cs, wt, by rw [upd_ne (ne_of h1 hD (by intro z; cases z))]; exact h1, by rw [upd_ne (ne_of h2 hD (by intro z; cases z))]; exact h2, h3⟩
theorem KeepO.frm {t : Ad} {old H G : Hp} {k x C dx : Addr} {fs : List (Str × V)} {ns : List Int} (f : Frm H x G) (hx : H x = some (.ins C dx fs)) (kx : k ≠ x) (h : KeepO t old H k ns) : KeepO t old G k ns := by
  obtain ⟨dk, he, nn, dn, hd, un, cs, wt, h1, h2, h3⟩ := h
  exact ⟨dk, he, nn, dn, hd, un, cs, wt, f _ _ h1 kx, f _ _ h2 (ne_of h2 hx (by intro z; cases z)), h3⟩
theorem BoardAt.frm {t : Ad} {H G : Hp} {b db S x C dx : Addr} {en : Int} {fs : List (Str × V)} (f : Frm H x G) (hx : H x = some (.ins C dx fs)) (bx : b ≠ x) (h : BoardAt t H b db S en [] []) : BoardAt t G b db S en [] [] :=
  ⟨f _ _ h.ob bx, f _ _ h.sg (ne_of h.sg hx (by intro z; cases z)), .nil, h.un⟩
theorem lst_frm {H G : Hp} {a x C dx : Addr} {fs : List (Str × V)} {xs : List V} (f : Frm H x G) (hx : H x = some (.ins C dx fs)) (h : H a = some (.lst xs)) : G a = some (.lst xs) := f _ _ h (ne_of h hx (by intro z; cases z))
theorem dK_frm {H G : Hp} {a x C dx : Addr} {fs : List (Str × V)} {xs : List (Key × V)} (f : Frm H x G) (hx : H x = some (.ins C dx fs)) (h : H a = some (.dK xs)) : G a = some (.dK xs) := f _ _ h (ne_of h hx (by intro z; cases z))
theorem Frm.refl' {H : Hp} {x : Addr} : Frm H x H := fun _ _ e _ => e
theorem Frm.trans' {H G J : Hp} {x : Addr} (f : Frm H x G) (g : Frm G x J) : Frm H x J := fun b u e bx => g _ _ (f _ _ e bx) bx
theorem Frm.sm {H G J : Hp} {x : Addr} (f : Frm H x G) (g : Same G J) : Frm H x J := fun b u e bx => g _ _ (f _ _ e bx)
theorem ok_World___init__ (T : Txt K mg t) : FnOk P w K mg base (CX2 P w) 6 t.f_World___init__ t.d_World___init__ ["self", "houses", "few", "sums", "liars", "cheats"] (sp_woinit t) := by
  refine T.F_World___init__.okY sc_World___init__ (fun vs H Q E h => ?_) (fun cdv A outer s H vs Q E hr h => ?_)
  · obtain ⟨x, dx, hs, fw, ss, fo, ro, rfl, _⟩ := h
    rfl
  · obtain ⟨x, dx, hs, fw, ss, fo, ro, rfl, hx, hc⟩ := h
    refine ⟨_, (@pss_cons _ _ _ _ _ (ps_expr (pe_callK (ok_check_houses T) (hr.mono (by decide)) rfl T.m_check_houses T.F_check_houses.kp T.bk0_check_houses pass2 (pa_more (pv 1) pa_nil) (pk_cons (pv 2) (pk_cons (pv 4) pk_nil))))
      (@pss_cons _ _ _ _ _ (ps_expr (pe_callK (ok_check_purses T) (hr.mono (by decide)) rfl T.m_check_purses T.F_check_purses.kp T.bk0_check_purses pass2 (pa_more (pv 3) pa_nil) (pk_cons (pv 5) pk_nil)))
      (@pss_cons _ _ _ _ _ (ps_fld (pv 0) (pe_callB call_len_seq rfl T.n_len boot_len (pa_more (pv 3) pa_nil)) rfl)
      (@pss_cons _ _ _ _ _ (ps_fld (pv 0) (pe_callB (call_sum rfl) rfl T.n_sum boot_sum (pa_more (pv 3) pa_nil)) rfl)
      (@pss_cons _ _ _ _ _ (ps_fld (pv 0) (pe_callTy call_list_of rfl T.n_list boot_list (pa_more (pv 4) pa_nil)) rfl)
      (@pss_cons _ _ _ _ _ (ps_fld (pv 0) (pe_callTy call_list_of rfl T.n_list boot_list (pa_more (pv 5) pa_nil)) rfl)
      (@pss_cons _ _ _ _ _ (ps_fld (pv 0) (pe_dcomp (.dK []) (.inl rfl) (hu_of hr) (N' := ["house", "sums", "liars"]) (ix := [none, some 3, some 4]) (compOk_is (by kernel_rfl)) rfl (pi_range1 rfl T.n_range (pa_more (pv 1) pa_nil)) (fun _ _ _ _ => (pg_name (i := 0) nd_3 rfl (Or.inl rfl) (.inr rfl))) (fun _ _ _ _ => (pif_one (pt_cmpR (op_notIn_seqK (K := K) rfl) (pv 0) (pv 2) (by with_unfolding_all rfl)))) (fun _ _ _ _ => (pv 0)) (fun _ _ _ _ => (pe_make T.mk_Keeper (ok_Keeper___init__ T) (hr.mono (by decide)) rfl T.m_Keeper T.b_Keeper___init__ .nil pass0 (pa_more (pv 1) pa_nil)))) rfl)
      (@pss_cons _ _ _ _ _ (ps_fld (pv 0) (pe_make T.mk_Board (ok_Board___init__ T) (hr.mono (by decide)) rfl T.m_Board T.b_Board___init__ .nil pass0 (pa_more (pe_callK (ok_enough_of T) (hr.mono (by decide)) rfl T.m_enough_of T.F_enough_of.kp T.bk0_enough_of pass0 (pa_more (pv 1) pa_nil) (pk_cons (pv 2) pk_nil)) pa_nil)) rfl)
      (@pss_cons _ _ _ _ _ (ps_fld (pv 0) (pe_lcomp (N' := ["each"]) (ix := [none]) (compOk_is (by kernel_rfl)) rfl (@pi_list _ _ _ _ (pv 3)) (fun _ _ _ _ => (pg_name (i := 0) nd_2 rfl (Or.inl rfl) (.inr rfl))) (fun _ _ _ _ => pif_nil) (fun _ _ _ _ => (@pe_lst _ _ _ _ pa_nil))) rfl)
      (@pss_one _ _ _ (ps_fld (pv 0) (@pe_lst _ _ _ _ pa_nil) rfl))))))))))), ?_⟩
    rcases hc with ⟨⟨th, tf, hn⟩, e1⟩ | ⟨⟨h, f, rfl, rfl, h1, f1, hc⟩, e1⟩ | ⟨h, f, ns, fs, rs, ⟨rfl, rfl, h1, f1, lt, fa, sa, ra, rfl, hfa, sfa, rfa, lfa, rfl, hsa, hss, rfl, hra, sra, rra⟩, k⟩
    · exact ⟨_, rfl, _, rfl, _, rfl, hs, fw, fo, rfl, th, tf, .inl ⟨hn, e1 _ (Same.refl _)⟩⟩
    · refine ⟨_, rfl, _, rfl, _, rfl, .int h, .int f, fo, rfl, .inl rfl, .inl rfl, .inr ⟨h, f, rfl, rfl, h1, f1, ?_⟩⟩
      rcases hc with hc | ⟨lt, r, n, hR, hc⟩
      · exact .inl ⟨hc, e1 _ (Same.refl _)⟩
      · refine .inr ⟨lt, r, n, hR, fun _ => e1, fun er ln H1 s1 => ?_⟩
        rcases hc with hc | ⟨_, _, b, hb, hc⟩
        · exfalso
          rcases hc with z | z
          · rw [er] at z; cases z
          · omega
        refine ⟨_, rfl, _, rfl, ss, ro, b, rfl, hb.same s1, fun _ H2 s2 => e1 _ (s1.trans s2), fun eb => ?_⟩
        rcases hc with z | ⟨_, sa, xs, n', rfl, hsa, hR2⟩
        · rw [eb] at z; cases z
        · exact ⟨sa, xs, false, n', rfl, s1 _ _ hsa, hR2.same s1, fun _ H2 s2 => e1 _ (s1.trans s2), fun z => by cases z⟩
    · refine ⟨_, rfl, _, rfl, _, rfl, .int h, .int f, .ref fa, rfl, .inl rfl, .inl rfl, .inr ⟨h, f, rfl, rfl, h1, f1, .inr ⟨lt, true, fs.length, .inr ⟨fa, fs, rfl, hfa, sfa, rfa.symm, rfl⟩, fun z => ?_, fun _ _ H1 s1 => ?_⟩⟩⟩
      · exfalso
        rcases z with z | z
        · cases z
        · omega
      refine ⟨_, rfl, _, rfl, .ref sa, .ref ra, true, rfl, hss.same s1, fun z => (by cases z), fun _ => ⟨sa, _, true, rs.length, rfl, s1 _ _ hsa, .inr ⟨ra, rs, rfl, hra.same s1, sra, (by rw [List.length_map]; exact rra.symm), rfl⟩, fun z => (by cases z), fun _ H2 s2 => ?_⟩⟩
      have s3 := s1.trans s2
      clear s1 s2
      have hsa3 := s3 _ _ hsa
      have hx3 := s3 _ _ hx
      have hfa3 := hfa.same s3
      have hra3 := hra.same s3
      have F0 : Frm H x H2 := fun b u e _ => s3 b u e
      have sx : sa ≠ x := ne_of hsa3 hx3 (by intro z; cases z)
      have rowx : ∀ {G : Hp} {a : Addr} {xs : List V}, RowAt H2 a xs → Frm H2 x G → RowAt G a xs := fun h f => h.imp (fun e => f _ _ e (ne_of e hx3 (by intro z; cases z))) (fun e => f _ _ e (ne_of e hx3 (by intro z; cases z)))
      have len8 : ns.length ≤ 8 := by
        rcases hss with ⟨z, _⟩ | ⟨_, _, _, _, z⟩ | ⟨b, xs, eb, hb, _, _, z⟩
        · cases z
        · cases z
        · cases eb
          rw [hsa] at hb
          cases hb
          unfold sumOk at z
          have := of_decide_eq_true (Bool.and_eq_true _ _ ▸ z.symm).1
          rw [List.length_map] at this
          omega
      refine ⟨_, rfl, sa, _, rfl, .inl (SqL.of hsa3), _, rfl, x, _, dx, _, rfl, hx3, T.cl_World, T.na_World_purses, (by show 0 < 1000; decide), ?_⟩
      have f1 := Frm.obj (o := .ins t.a_World dx (putF "purses" (.int (ns.map V.int).length) [])) (H := H2) (G := H2) (x := x) (fun b u e _ => e)
      have h1' : upd H2 x (.ins t.a_World dx (putF "purses" (.int (ns.map V.int).length) [])) x = _ := upd_same
      dsimp only
      generalize upd H2 x (.ins t.a_World dx (putF "purses" (.int (ns.map V.int).length) [])) = G1 at f1 h1'
      refine ⟨_, rfl, sa, ns, rfl, SqL.of (f1 _ _ hsa3 sx), _, rfl, x, _, dx, _, rfl, h1', T.cl_World, T.na_World_total, (by show 1 < 1000; decide), ?_⟩
      have f2 := Frm.obj (o := .ins t.a_World dx (putF "total" (.int ns.sum) (putF "purses" (.int (ns.map V.int).length) []))) f1
      have h2' : upd G1 x (.ins t.a_World dx (putF "total" (.int ns.sum) (putF "purses" (.int (ns.map V.int).length) []))) x = _ := upd_same
      dsimp only
      generalize upd G1 x (.ins t.a_World dx (putF "total" (.int ns.sum) (putF "purses" (.int (ns.map V.int).length) []))) = G2 at f2 h2'
      refine ⟨_, rfl, fa, fs, rfl, (rowx hfa3 f2).sq, fun ly nly => ?_⟩
      have lyx : ly ≠ x := (ne_of_none h2' nly).symm
      have oly : H ly = none := (F0.trans' f2).none h2' nly
      refine ⟨_, rfl, x, _, dx, _, rfl, (same_upd nly) _ _ h2', T.cl_World, T.na_World_lying, (by show 2 < 1000; decide), ?_⟩
      have f3 := Frm.obj (o := .ins t.a_World dx (putF "lying" (.ref ly) (putF "total" (.int ns.sum) (putF "purses" (.int (ns.map V.int).length) [])))) (Frm.new (o := .lst fs) f2 nly)
      have h3' : upd (upd G2 ly (.lst fs)) x (.ins t.a_World dx (putF "lying" (.ref ly) (putF "total" (.int ns.sum) (putF "purses" (.int (ns.map V.int).length) [])))) x = _ := upd_same
      have l3 : upd (upd G2 ly (.lst fs)) x (.ins t.a_World dx (putF "lying" (.ref ly) (putF "total" (.int ns.sum) (putF "purses" (.int (ns.map V.int).length) [])))) ly = some (.lst fs) := by rw [upd_ne lyx]; exact upd_same
      dsimp only
      generalize upd (upd G2 ly (.lst fs)) x (.ins t.a_World dx (putF "lying" (.ref ly) (putF "total" (.int ns.sum) (putF "purses" (.int (ns.map V.int).length) [])))) = G3 at f3 h3' l3
      refine ⟨_, rfl, ra, rs, rfl, (rowx hra3 f3).sq, fun ch nch => ?_⟩
      have chx : ch ≠ x := (ne_of_none h3' nch).symm
      have och : H ch = none := (F0.trans' f3).none h3' nch
      refine ⟨_, rfl, x, _, dx, _, rfl, (same_upd nch) _ _ h3', T.cl_World, T.na_World_cheating, (by show 3 < 1000; decide), ?_⟩
      have f4 := Frm.obj (o := .ins t.a_World dx (putF "cheating" (.ref ch) (putF "lying" (.ref ly) (putF "total" (.int ns.sum) (putF "purses" (.int (ns.map V.int).length) []))))) (Frm.new (o := .lst rs) f3 nch)
      have h4' : upd (upd G3 ch (.lst rs)) x (.ins t.a_World dx (putF "cheating" (.ref ch) (putF "lying" (.ref ly) (putF "total" (.int ns.sum) (putF "purses" (.int (ns.map V.int).length) []))))) x = _ := upd_same
      have l4 : upd (upd G3 ch (.lst rs)) x (.ins t.a_World dx (putF "cheating" (.ref ch) (putF "lying" (.ref ly) (putF "total" (.int ns.sum) (putF "purses" (.int (ns.map V.int).length) []))))) ly = some (.lst fs) := by rw [upd_ne lyx]; exact (same_upd nch) _ _ l3
      have c4 : upd (upd G3 ch (.lst rs)) x (.ins t.a_World dx (putF "cheating" (.ref ch) (putF "lying" (.ref ly) (putF "total" (.int ns.sum) (putF "purses" (.int (ns.map V.int).length) []))))) ch = some (.lst rs) := by rw [upd_ne chx]; exact upd_same
      dsimp only
      generalize upd (upd G3 ch (.lst rs)) x (.ins t.a_World dx (putF "cheating" (.ref ch) (putF "lying" (.ref ly) (putF "total" (.int ns.sum) (putF "purses" (.int (ns.map V.int).length) []))))) = G4 at f4 h4' l4 c4
      have hfl : fs.all flatV = true := List.all_eq_true.mpr fun y hy => by
        obtain ⟨i, rfl⟩ := rises_int rfa y hy
        rfl
      have hrl : rs.all flatV = true := List.all_eq_true.mpr fun y hy => by
        obtain ⟨i, rfl⟩ := rises_int rra y hy
        rfl
      refine ⟨_, rfl, h, rfl, (by omega), (by omega), fun D nD => ?_⟩
      have Dx : D ≠ x := (ne_of_none h4' nD).symm
      have hsa4 := f4 _ _ hsa3 sx
      have F4G := F0.trans' f4
      have hfa4 := rowx hfa3 f4
      refine dc_range (lo := 0) (n := h.toNat) (fun i σ H' => ∃ v kvs, σ = [v, some (.ref sa), some (.ref fa)] ∧ Same G4 H' ∧ H' D = some (.dK kvs) ∧ kvs.map (·.1) = (honN fs i).map Sum.inl ∧ ∀ kv ∈ kvs, ∃ k, kv.2 = .ref k ∧ k ≠ x ∧ KeepO t H H' k ns) ⟨none, [], rfl, same_upd nD, upd_same, rfl, fun kv hkv => by cases hkv⟩ ?_ ?_
      · rintro i σ H' hi ⟨v, kvs, rfl, sm, hD, ek, hk⟩
        refine ⟨_, rfl, _, rfl, fa, fs, rfl, (hfa4.same sm).sq, rfl, hfl, _, rfl, ?_⟩
        have e0 : (0 : Int) + (i : Int) = i := Int.zero_add _
        rw [e0]
        refine ite2 (fun z => ?_) (fun z => ?_)
        · refine ⟨_, rfl, _, rfl, fun k dk nk ndk ne => ?_⟩
          have kx : k ≠ x := (ne_of_none (sm _ _ h4') nk).symm
          have sk : Same H' (upd (upd H' dk (.own k)) k (.ins t.a_Keeper dk [])) := fun b u e => by
            rw [upd_ne (ne_of_none e nk), upd_ne (ne_of_none e ndk)]
            exact e
          refine ⟨k, dk, sa, ns, rfl, upd_same, sk _ _ (sm _ _ hsa4), by omega, fun he nn dn hd un cs wt J nhe hk1 hhe fr => ⟨rfl, ?_⟩⟩
          have sJ : Same H' J := fun b u e => fr _ _ (sk _ _ e) (ne_of_none e nk)
          have hDJ := sJ _ _ hD
          have nv : valV kvs (.inl (i : Int)) = none := valV_out (by
            rw [ek]
            intro z
            obtain ⟨j, hj, ej⟩ := List.mem_map.mp z
            have := honN_lt hj
            cases ej
            omega)
          have lk : kvs.length ≤ i := by
            have : kvs.length = (kvs.map (·.1)).length := by rw [List.length_map]
            rw [this, ek, List.length_map]
            exact honN_len _ _
          refine ⟨_, DPut.k (k := .inl (i : Int)) hDJ (small1000 (by omega)), ?_⟩
          rw [putK_new _ nv]
          refine ⟨_, _, rfl, fun b u e => ?_, upd_same, ?_, fun kv hkv => ?_⟩
          · rw [upd_ne (ne_of_none e nD)]
            exact sJ _ _ (sm _ _ e)
          · rw [List.map_append, ek, honN_succ, if_pos (show (!inV (.int (i : Int)) fs) = true from z), List.map_append]
            rfl
          · rcases List.mem_append.mp hkv with hkv | hkv
            · obtain ⟨k', e', k'x, K'⟩ := hk kv hkv
              exact ⟨k', e', k'x, (K'.same sJ).updD hDJ⟩
            · rw [List.mem_singleton.mp hkv]
              exact ⟨k, rfl, kx, KeepO.updD hDJ ⟨dk, he, nn, dn, hd, un, cs, wt, hk1, hhe, (F4G.sm sm).none (sm _ _ h4') (sk.free nhe)⟩⟩
        · refine ⟨_, _, rfl, sm, hD, ?_, hk⟩
          rw [ek, honN_succ, if_neg (show ¬ (!inV (.int (i : Int)) fs) = true from z), List.append_nil]
      · rintro σ G5 ⟨v, kvs, rfl, sm, hD, ek, hk⟩
        have h5' := sm _ _ h4'
        refine ⟨_, rfl, x, _, dx, _, rfl, h5', T.cl_World, T.na_World_keepers, (by show 4 < 1000; decide), ?_⟩
        have l5 := sm _ _ l4
        have c5 := sm _ _ c4
        have g6 : Frm G5 x (upd G5 x (.ins t.a_World dx (putF "keepers" (.ref D) (putF "cheating" (.ref ch) (putF "lying" (.ref ly) (putF "total" (.int ns.sum) (putF "purses" (.int (ns.map V.int).length) []))))))) := Frm.obj Frm.refl'
        have f6 := (f4.sm sm).trans' g6
        have l6 := lst_frm g6 h5' l5
        have c6 := lst_frm g6 h5' c5
        have D6 := dK_frm g6 h5' hD
        have k6 : ∀ kv ∈ kvs, ∃ k, kv.2 = .ref k ∧ k ≠ x ∧ KeepO t H _ k ns := fun kv hkv => let ⟨k, e, kx, q⟩ := hk kv hkv; ⟨k, e, kx, q.frm g6 h5' kx⟩
        have h6' : upd G5 x (.ins t.a_World dx (putF "keepers" (.ref D) (putF "cheating" (.ref ch) (putF "lying" (.ref ly) (putF "total" (.int ns.sum) (putF "purses" (.int (ns.map V.int).length) [])))))) x = _ := upd_same
        dsimp only
        generalize upd G5 x (.ins t.a_World dx (putF "keepers" (.ref D) (putF "cheating" (.ref ch) (putF "lying" (.ref ly) (putF "total" (.int ns.sum) (putF "purses" (.int (ns.map V.int).length) [])))))) = G6 at f6 l6 c6 D6 k6 h6'
        clear g6 f1 f2 f3 f4 h1' h2' h3' h4' h5' l3 l4 l5 c4 c5 nly nch
        refine ⟨_, rfl, _, rfl, h, f, rfl, fun b db nb ndb neb => ?_⟩
        have bx : b ≠ x := (ne_of_none h6' nb).symm
        have sb : Same G6 (upd (upd G6 db (.own b)) b (.ins t.a_Board db [])) := fun c u e => by
          rw [upd_ne (ne_of_none e nb), upd_ne (ne_of_none e ndb)]
          exact e
        refine ⟨b, db, h - f, rfl, upd_same, fun S G7 nS B fr => ⟨rfl, ?_⟩⟩
        have s7 : Same G6 G7 := fun c u e => fr _ _ (sb _ _ e) (ne_of_none e nb)
        have h7' := s7 _ _ h6'
        refine ⟨_, rfl, x, _, dx, _, rfl, h7', T.cl_World, T.na_World_board, (by show 5 < 1000; decide), ?_⟩
        have g8 : Frm G7 x (upd G7 x (.ins t.a_World dx (putF "board" (.ref b) (putF "keepers" (.ref D) (putF "cheating" (.ref ch) (putF "lying" (.ref ly) (putF "total" (.int ns.sum) (putF "purses" (.int (ns.map V.int).length) [])))))))) := Frm.obj Frm.refl'
        have f8 := (f6.sm s7).trans' g8
        have l8 := lst_frm g8 h7' (s7 _ _ l6)
        have c8 := lst_frm g8 h7' (s7 _ _ c6)
        have D8 := dK_frm g8 h7' (s7 _ _ D6)
        have k8 : ∀ kv ∈ kvs, ∃ k, kv.2 = .ref k ∧ k ≠ x ∧ KeepO t H _ k ns := fun kv hkv => let ⟨k, e, kx, q⟩ := k6 kv hkv; ⟨k, e, kx, (q.same s7).frm g8 h7' kx⟩
        have B8 := B.frm g8 h7' bx
        have h8' : upd G7 x (.ins t.a_World dx (putF "board" (.ref b) (putF "keepers" (.ref D) (putF "cheating" (.ref ch) (putF "lying" (.ref ly) (putF "total" (.int ns.sum) (putF "purses" (.int (ns.map V.int).length) []))))))) x = _ := upd_same
        dsimp only
        generalize upd G7 x (.ins t.a_World dx (putF "board" (.ref b) (putF "keepers" (.ref D) (putF "cheating" (.ref ch) (putF "lying" (.ref ly) (putF "total" (.int ns.sum) (putF "purses" (.int (ns.map V.int).length) []))))))) = G8 at f8 l8 c8 D8 k8 B8 h8'
        clear g8 f6 h6' h7' l6 c6 D6 k6 B sb s7 fr
        have hsa8 := f8 _ _ hsa3 sx
        refine ⟨_, rfl, sa, rfl, ⟨_, SqL.of hsa8⟩, lc_list (K := K) (a := sa) (xs := ns.map V.int) (fun i ys σ H' => ∃ v rr, σ = [v] ∧ ys = rr.map V.ref ∧ rr.length = i ∧ Same G8 H' ∧ (∀ r ∈ rr, G8 r = none ∧ H' r = some (.lst [])) ∧ rr.Nodup) ⟨none, [], rfl, rfl, rfl, Same.refl _, fun r hr => (by cases hr), List.nodup_nil⟩ ?_ ?_ ?_⟩
        · rintro i ys σ H' hi ⟨v, rr, rfl, rfl, lr, sm8, hrr, nd⟩
          rw [List.length_map] at hi
          refine ⟨SqL.of (sm8 _ _ hsa8), len1000 ?_⟩
          rw [List.length_map]
          omega
        · rintro i y ys σ H' hy ⟨v, rr, rfl, rfl, lr, sm8, hrr, nd⟩
          dsimp only [gName, tYes]
          rw [if_pos rfl]
          refine ⟨zs0, fun p np => ⟨_, rr ++ [p], rfl, ?_, ?_, sm8.trans (same_upd np), fun r hr => ?_, ?_⟩⟩
          · rw [List.map_append]; rfl
          · rw [List.length_append, lr]; rfl
          · rcases List.mem_append.mp hr with hr | hr
            · exact ⟨(hrr r hr).1, (same_upd np) _ _ (hrr r hr).2⟩
            · rw [List.mem_singleton.mp hr]
              exact ⟨sm8.free np, upd_same⟩
          · refine List.nodup_append.mpr ⟨nd, (by simp), fun a ha b hb z => ?_⟩
            rw [List.mem_singleton.mp hb] at z
            subst z
            have := (hrr a ha).2
            rw [np] at this
            cases this
        · rintro ys σ H' ⟨v, rr, rfl, rfl, lr, sm8, hrr, nd⟩ ak nak
          rw [List.length_map] at lr
          have sa9 := sm8.trans (same_upd (o := .lst (rr.map V.ref)) nak)
          have h9' := sa9 _ _ h8'
          have akx : ak ≠ x := (ne_of_none (sm8 _ _ h8') nak).symm
          have oak : H ak = none := (F0.trans' (f8.sm sm8)).none (sm8 _ _ h8') nak
          have orr : ∀ r ∈ rr, H r = none := fun r hr => (F0.trans' f8).none h8' (hrr r hr).1
          refine ⟨_, rfl, x, _, dx, _, rfl, h9', T.cl_World, T.na_World_asked, (by show 6 < 1000; decide), ?_⟩
          have g10 : Frm (upd H' ak (.lst (rr.map V.ref))) x (upd (upd H' ak (.lst (rr.map V.ref))) x (.ins t.a_World dx (putF "asked" (.ref ak) (putF "board" (.ref b) (putF "keepers" (.ref D) (putF "cheating" (.ref ch) (putF "lying" (.ref ly) (putF "total" (.int ns.sum) (putF "purses" (.int (ns.map V.int).length) []))))))))) := Frm.obj Frm.refl'
          have f10 := (f8.sm sa9).trans' g10
          have l10 := lst_frm g10 h9' (sa9 _ _ l8)
          have c10 := lst_frm g10 h9' (sa9 _ _ c8)
          have D10 := dK_frm g10 h9' (sa9 _ _ D8)
          have k10 : ∀ kv ∈ kvs, ∃ k, kv.2 = .ref k ∧ k ≠ x ∧ KeepO t H _ k ns := fun kv hkv => let ⟨k, e, kx, q⟩ := k8 kv hkv; ⟨k, e, kx, (q.same sa9).frm g10 h9' kx⟩
          have B10 := (B8.same sa9).frm g10 h9' bx
          have a10 := lst_frm g10 h9' upd_same
          have r10 : ∀ r ∈ rr, _ = some (HO.lst []) := fun r hr => lst_frm g10 h9' ((same_upd nak) _ _ (hrr r hr).2)
          have h10' : upd (upd H' ak (.lst (rr.map V.ref))) x (.ins t.a_World dx (putF "asked" (.ref ak) (putF "board" (.ref b) (putF "keepers" (.ref D) (putF "cheating" (.ref ch) (putF "lying" (.ref ly) (putF "total" (.int ns.sum) (putF "purses" (.int (ns.map V.int).length) [])))))))) x = _ := upd_same
          have rch : ∀ r ∈ rr, r ≠ ch := fun r hr z => by
            have := (hrr r hr).1
            rw [z, c8] at this
            cases this
          have rak : ∀ r ∈ rr, r ≠ ak := fun r hr z => by
            have := (hrr r hr).2
            rw [z, nak] at this
            cases this
          dsimp only
          generalize upd (upd H' ak (.lst (rr.map V.ref))) x (.ins t.a_World dx (putF "asked" (.ref ak) (putF "board" (.ref b) (putF "keepers" (.ref D) (putF "cheating" (.ref ch) (putF "lying" (.ref ly) (putF "total" (.int ns.sum) (putF "purses" (.int (ns.map V.int).length) [])))))))) = G10 at f10 l10 c10 D10 k10 B10 a10 r10 h10'
          clear g10 f8 l8 c8 D8 k8 B8 h8' hrr
          refine ⟨zs0, fun wy nwy => ⟨_, rfl, x, _, dx, _, rfl, (same_upd nwy) _ _ h10', T.cl_World, T.na_World_on_way, (by show 7 < 1000; decide), ?_⟩⟩
          have s11 := same_upd (o := .lst []) nwy
          have owy : H wy = none := (F0.trans' f10).none h10' nwy
          have h11' := s11 _ _ h10'
          have g12 : Frm (upd G10 wy (.lst [])) x (upd (upd G10 wy (.lst [])) x (.ins t.a_World dx (wof (ns.map V.int).length ns.sum ly ch D b ak wy))) := Frm.obj Frm.refl'
          refine k ⟨x, dx, (ns.map V.int).length, ns.sum, ly, ch, D, b, ak, wy, db, S, h - f, fs, rs, ns, kvs, rr, H⟩ _ (F0.trans' ((f10.sm s11).trans' g12)) ⟨⟨upd_same, lst_frm g12 h11' (s11 _ _ c10), lst_frm g12 h11' (s11 _ _ a10), fun i r e => lst_frm g12 h11' (s11 _ _ (r10 r (List.mem_of_getElem? e))), (B10.same s11).frm g12 h11' bx, lst_frm g12 h11' upd_same, hrl, och, oak, owy, orr⟩, lst_frm g12 h11' (s11 _ _ l10), dK_frm g12 h11' (s11 _ _ D10), fun kv hkv => let ⟨k, e, kx, q⟩ := k10 kv hkv; ⟨k, e, (q.same s11).frm g12 h11' kx⟩, hfl, oly⟩ ⟨(ne_of_none c10 nwy).symm, (ne_of_none a10 nwy).symm, fun r hr => ⟨rch r hr, rak r hr, ne_of_none (r10 r hr) nwy⟩, nd⟩ rfl (by rw [List.length_map]) rfl rfl rfl ek lr rfl rfl
theorem WoC.keepT {t : Ad} {T R : Addr} {H H' : Hp} {W : Wo} {row : Nat → List V} {way : List V} (h0 : Town T R W.old) (hT : Town T R H) (k : KeepT T R H H') (w : WoC t H W row way) : WoC t H' W row way := by
  have n1 : ∀ {p : Addr}, W.old p = none → p ≠ T ∧ p ≠ R := fun {p} hp => h0.fresh hp
  obtain ⟨rw_, c, t1, t2, _⟩ := hT
  have n2 : ∀ {p : Addr} {u : HO}, H p = some u → (∀ xs, u ≠ .lst xs) → p ≠ T ∧ p ≠ R := fun {p u} e hu => ⟨ne_of e t1 (hu _), ne_of e t2 (hu _)⟩
  obtain ⟨a1, a2, a3, a4⟩ := w.nw
  have g : ∀ {p : Addr} {u : HO}, H p = some u → p ≠ T ∧ p ≠ R → H' p = some u := fun e n => k _ _ e n.1 n.2
  exact ⟨g w.ob (n2 w.ob fun _ z => by cases z), g w.ch (n1 a1), g w.ak (n1 a2), fun i r e => g (w.ro i r e) (n1 (a4 r (List.mem_of_getElem? e))), ⟨g w.bd.ob (n2 w.bd.ob fun _ z => by cases z), g w.bd.sg (n2 w.bd.sg fun _ z => by cases z), .nil, w.bd.un⟩, g w.wy (n1 a3), w.cf, w.nw⟩
theorem WoAt.keepT {t : Ad} {T R : Addr} {H H' : Hp} {W : Wo} (h0 : Town T R W.old) (hT : Town T R H) (k : KeepT T R H H') (w : WoAt t H W) : WoAt t H' W := by
  have n1 : ∀ {p : Addr}, W.old p = none → p ≠ T ∧ p ≠ R := fun {p} hp => h0.fresh hp
  have w1 := w.c.keepT h0 hT k
  obtain ⟨rw_, c, t1, t2, _⟩ := hT
  have n2 : ∀ {p : Addr} {u : HO}, H p = some u → (∀ xs, u ≠ .lst xs) → p ≠ T ∧ p ≠ R := fun {p u} e hu => ⟨ne_of e t1 (hu _), ne_of e t2 (hu _)⟩
  have g : ∀ {p : Addr} {u : HO}, H p = some u → p ≠ T ∧ p ≠ R → H' p = some u := fun e n => k _ _ e n.1 n.2
  refine ⟨w1, g w.ly (n1 w.nl), g w.kd (n2 w.kd fun _ z => by cases z), fun kv hkv => ?_, w.lf, w.nl⟩
  obtain ⟨kk, e, dk, he, nn, dn, hd, un, cs, wt, h1, h2, h3⟩ := w.kp kv hkv
  exact ⟨kk, e, dk, he, nn, dn, hd, un, cs, wt, g h1 (n2 h1 fun _ z => by cases z), g h2 (n1 h3), h3⟩
inductive Ans where
  | hou (v : V)
  | pur (v : V)
  | num
  | ord
  | let_
  | now
  | much
  | pap
def Gone (t : Ad) (E : XK) (H : Hp) : Ans → Prop
  | .hou v => ∀ d H', Same H H' → H' d = some (.xd [("house", v)]) → E (.ref t.a_NoHouse) (some d) H'
  | .pur v => ∀ d H', Same H H' → H' d = some (.xd [("purse", v)]) → E (.ref t.a_NoPurse) (some d) H'
  | .num => ∀ H', Same H H' → E (.ref t.a_BadNumber) none H'
  | .ord => ∀ H', Same H H' → E (.ref t.a_BadOrder) none H'
  | .let_ => ∀ H', Same H H' → E (.ref t.a_NoLetter) none H'
  | .now => ∀ H', Same H H' → E (.ref t.a_NotNow) none H'
  | .much => ∀ H', Same H H' → E (.ref t.a_TooMuch) none H'
  | .pap => ∀ H', Same H H' → E (.ref t.a_BadPaper) none H'
theorem rzP {t : Ad} {E : XK} {H : Hp} {v : V} (e : Gone t E H (.pur v)) (ea : Addr) (hea : H ea = none) : ∃ x v', [V.ref ea, v] = [V.ref x, v'] ∧ upd H ea (IsExc0 ea t.a_NoPurse) x = some (IsExc0 x t.a_NoPurse) ∧ ∀ d, upd H ea (IsExc0 ea t.a_NoPurse) d = none → V.non = .non ∧ ∃ d', upd (upd (upd H ea (IsExc0 ea t.a_NoPurse)) x (IsExc1 x t.a_NoPurse d)) d (.xd [("purse", v')]) ea = some (IsExc1 ea t.a_NoPurse d') ∧ E (.ref t.a_NoPurse) (some d') (fun b => if b = ea then none else upd (upd (upd H ea (IsExc0 ea t.a_NoPurse)) x (IsExc1 x t.a_NoPurse d)) d (.xd [("purse", v')]) b) := by
  refine ⟨ea, v, rfl, upd_same, fun d hd => ?_⟩
  obtain ⟨g1, g2, g3, g4⟩ := xdrop (Y := IsExc1 ea t.a_NoPurse d) (Z := .xd [("purse", v)]) hea hd
  exact ⟨rfl, d, g2, e d _ g3 g4⟩
theorem rzH {t : Ad} {E : XK} {H : Hp} {v : V} (e : Gone t E H (.hou v)) (ea : Addr) (hea : H ea = none) : ∃ x v', [V.ref ea, v] = [V.ref x, v'] ∧ upd H ea (IsExc0 ea t.a_NoHouse) x = some (IsExc0 x t.a_NoHouse) ∧ ∀ d, upd H ea (IsExc0 ea t.a_NoHouse) d = none → V.non = .non ∧ ∃ d', upd (upd (upd H ea (IsExc0 ea t.a_NoHouse)) x (IsExc1 x t.a_NoHouse d)) d (.xd [("house", v')]) ea = some (IsExc1 ea t.a_NoHouse d') ∧ E (.ref t.a_NoHouse) (some d') (fun b => if b = ea then none else upd (upd (upd H ea (IsExc0 ea t.a_NoHouse)) x (IsExc1 x t.a_NoHouse d)) d (.xd [("house", v')]) b) := by
  refine ⟨ea, v, rfl, upd_same, fun d hd => ?_⟩
  obtain ⟨g1, g2, g3, g4⟩ := xdrop (Y := IsExc1 ea t.a_NoHouse d) (Z := .xd [("house", v)]) hea hd
  exact ⟨rfl, d, g2, e d _ g3 g4⟩
theorem sz1 : 1 ≤ sizeLine := by show 1 ≤ sizeLine; decide
def notHon (W : Wo) (v : V) : Prop := ∀ i, v = .int i → valV W.kvs (.inl i) = none
theorem ok_World_keeper_of (T : Txt K mg t) : FnOk P w K mg base (CX2 P w) 3 t.f_World_keeper_of t.d_World_keeper_of ["self", "house"] (fun vs H Q E => ∃ W v, vs = [.ref W.x, v] ∧ WoAt t H W ∧ simple v = true ∧ ((notHon W v ∧ Gone t E H (.hou v)) ∨ (∃ i u, v = .int i ∧ valV W.kvs (.inl i) = some u ∧ Q u H))) := by
  refine T.F_World_keeper_of.okY sc_World_keeper_of (fun vs H Q E h => ?_) (fun cdv A outer s H vs Q E hr h => ?_)
  · obtain ⟨W, v, rfl, _⟩ := h
    rfl
  · obtain ⟨W, v, rfl, O, sv, hc⟩ := h
    refine ⟨_, (@pss_cons _ _ _ _ _ (ps_if (PW.pt (pw_or (pt_not (pt_val (pe_call (ok_is_whole T) (hr.mono (by decide)) rfl T.m_is_whole T.F_is_whole.kp T.b_is_whole .nil pass0 (pa_more (pv 1) pa_nil)))) (pw_or1 (pt_cmp (pc_dnotin (hu_of hr) (pv 1) (pe_fld (pv 0) rfl)))))) (@pss_one _ _ _ (ps_raiseJ rfl T.m_NoHouse T.xin_NoHouse (ok_NoHouse___init__ T) (hr.mono (by decide)) T.b_NoHouse___init__ (pa_more (pv 1) pa_nil))) pss_nil)
      (@pss_one _ _ _ (ps_ret (pe_dget (hu_of hr) (pe_fld (pv 0) rfl) (pv 1) (fun _ _ => rfl))))), ?_⟩
    refine ⟨_, rfl, v, rfl, .inl sv, _, rfl, ?_⟩
    rcases hc with ⟨nh, g⟩ | ⟨i, u, rfl, hu, q⟩
    · cases hv : isI v with
      | false => exact iteT (iteT ⟨_, rfl, sz1, rzH g⟩)
      | true =>
        cases v with
        | int i =>
          refine iteF ?_
          refine ⟨_, rfl, _, rfl, W.x, _, W.dx, _, _, rfl, O.c.ob, T.cl_World, T.na_World_keepers, wof_keepers _ _ _ _ _ _ _ _, W.kd, none, rfl, .inl ⟨W.kvs, .inl i, .inl O.kd, rfl, (nh i rfl).symm⟩, _, rfl, ?_⟩
          exact iteT ⟨_, rfl, sz1, rzH g⟩
        | _ => cases hv
    · refine iteF ?_
      refine ⟨_, rfl, _, rfl, W.x, _, W.dx, _, _, rfl, O.c.ob, T.cl_World, T.na_World_keepers, wof_keepers _ _ _ _ _ _ _ _, W.kd, some u, rfl, .inl ⟨W.kvs, .inl i, .inl O.kd, rfl, hu.symm⟩, _, rfl, ?_⟩
      refine iteF ?_
      exact ⟨_, rfl, W.x, _, W.dx, _, _, rfl, O.c.ob, T.cl_World, T.na_World_keepers, wof_keepers _ _ _ _ _ _ _ _, _, rfl, W.kd, u, rfl, .inl ⟨W.kvs, .inl i, .inl O.kd, rfl, hu.symm⟩, q⟩
theorem ok_World_check_liar (T : Txt K mg t) : FnOk P w K mg base (CX2 P w) 3 t.f_World_check_liar t.d_World_check_liar ["self", "liar"] (fun vs H Q E => ∃ W v, vs = [.ref W.x, v] ∧ WoAt t H W ∧ simple v = true ∧ (((isI v = false ∨ inV v W.lv = false) ∧ Gone t E H (.hou v)) ∨ (isI v = true ∧ inV v W.lv = true ∧ Q .non H))) := by
  refine T.F_World_check_liar.okY sc_World_check_liar (fun vs H Q E h => ?_) (fun cdv A outer s H vs Q E hr h => ?_)
  · obtain ⟨W, v, rfl, _⟩ := h
    rfl
  · obtain ⟨W, v, rfl, O, sv, hc⟩ := h
    refine ⟨_, (@pss_one _ _ _ (ps_if (PW.pt (pw_or (pt_not (pt_val (pe_call (ok_is_whole T) (hr.mono (by decide)) rfl T.m_is_whole T.F_is_whole.kp T.b_is_whole .nil pass0 (pa_more (pv 1) pa_nil)))) (pw_or1 (pt_cmpR op_notIn_seq (pv 1) (pe_fld (pv 0) rfl) (by with_unfolding_all rfl))))) (@pss_one _ _ _ (ps_raiseJ rfl T.m_NoHouse T.xin_NoHouse (ok_NoHouse___init__ T) (hr.mono (by decide)) T.b_NoHouse___init__ (pa_more (pv 1) pa_nil))) pss_nil)), ?_⟩
    refine ⟨_, rfl, v, rfl, .inl sv, _, rfl, ?_⟩
    cases hv : isI v with
    | false =>
      refine iteT (iteT ⟨_, rfl, sz1, rzH ?_⟩)
      rcases hc with ⟨_, g⟩ | ⟨z, _⟩
      · exact g
      · rw [hv] at z; cases z
    | true =>
      refine iteF ?_
      have fv : flatV v = true := by cases v <;> first | rfl | cases hv
      refine ⟨_, rfl, _, rfl, W.x, _, W.dx, _, _, rfl, O.c.ob, T.cl_World, T.na_World_lying, wof_lying _ _ _ _ _ _ _ _, W.ly, _, rfl, .inl (SqL.of O.ly), fv, O.lf, _, rfl, ?_⟩
      rcases hc with ⟨z, g⟩ | ⟨_, z, q⟩
      · rcases z with z | z
        · rw [hv] at z; cases z
        · rw [z]
          exact iteT ⟨_, rfl, sz1, rzH g⟩
      · rw [z]
        exact iteF q
theorem ok_World_check_purse (T : Txt K mg t) : FnOk P w K mg base (CX2 P w) 3 t.f_World_check_purse t.d_World_check_purse ["self", "purse"] (fun vs H Q E => ∃ W row way v, vs = [.ref W.x, v] ∧ WoC t H W row way ∧ simple v = true ∧ ((isB v 0 (W.n - 1) = false ∧ Gone t E H (.pur v)) ∨ (isB v 0 (W.n - 1) = true ∧ Q .non H))) := by
  refine T.F_World_check_purse.okY sc_World_check_purse (fun vs H Q E h => ?_) (fun cdv A outer s H vs Q E hr h => ?_)
  · obtain ⟨W, row, way, v, rfl, _⟩ := h
    rfl
  · obtain ⟨W, row, way, v, rfl, O, sv, hc⟩ := h
    refine ⟨_, (@pss_one _ _ _ (ps_if (pt_not (pt_val (pe_call (ok_is_between T) (hr.mono (by decide)) rfl T.m_is_between T.F_is_between.kp T.b_is_between .nil pass0 (@pa_3 _ _ _ _ _ _ _ (pv 1) pe_int (pe_op op_sub (pe_fld (pv 0) rfl) pe_int) rfl rfl rfl)))) (@pss_one _ _ _ (ps_raiseJ rfl T.m_NoPurse T.xin_NoPurse (ok_NoPurse___init__ T) (hr.mono (by decide)) T.b_NoPurse___init__ (pa_more (pv 1) pa_nil))) pss_nil)), ?_⟩
    refine ⟨_, rfl, _, rfl, W.x, _, W.dx, _, _, rfl, O.ob, T.cl_World, T.na_World_purses, wof_purses _ _ _ _ _ _ _ _, _, _, rfl, rfl, v, 0, W.n - 1, rfl, .inl sv, _, rfl, ?_⟩
    rcases hc with ⟨z, g⟩ | ⟨z, q⟩
    · rw [z]
      exact iteT ⟨_, rfl, sz1, rzP g⟩
    · rw [z]
      exact iteF q
theorem ok_World_check_asker (T : Txt K mg t) : FnOk P w K mg base (CX2 P w) 4 t.f_World_check_asker t.d_World_check_asker ["self", "purse", "goal"] (fun vs H Q E => ∃ W row way p g, vs = [.ref W.x, p, g] ∧ WoC t H W row way ∧ simple p = true ∧ simple g = true ∧
    ((isB p 0 (W.n - 1) = false ∧ Gone t E H (.pur p)) ∨ (isB p 0 (W.n - 1) = true ∧ isB g 0 (W.n - 1) = false ∧ Gone t E H (.pur g)) ∨ (isB p 0 (W.n - 1) = true ∧ isB g 0 (W.n - 1) = true ∧ ((inV p W.cv = true ∨ g = p) ∧ Gone t E H (.pur p) ∨ (inV p W.cv = false ∧ g ≠ p ∧ Q .non H))))) := by
  refine T.F_World_check_asker.okY sc_World_check_asker (fun vs H Q E h => ?_) (fun cdv A outer s H vs Q E hr h => ?_)
  · obtain ⟨W, row, way, p, g, rfl, _⟩ := h
    rfl
  · obtain ⟨W, row, way, p, g, rfl, O, sp, sg, hc⟩ := h
    refine ⟨_, (@pss_cons _ _ _ _ _ (ps_expr (pe_meth (pv 0) T.cl_World T.mt_World_check_purse (ok_World_check_purse T) (hr.mono (by decide)) T.b_World_check_purse .nil pass2 (pa_more (pv 1) pa_nil)))
      (@pss_cons _ _ _ _ _ (ps_expr (pe_meth (pv 0) T.cl_World T.mt_World_check_purse (ok_World_check_purse T) (hr.mono (by decide)) T.b_World_check_purse .nil pass2 (pa_more (pv 2) pa_nil)))
      (@pss_one _ _ _ (ps_if (PW.pt (pw_or (pt_cmpR op_in_seq (pv 1) (pe_fld (pv 0) rfl) (by with_unfolding_all rfl)) (pw_or1 (pt_cmpR op_eq (pv 2) (pv 1) (nomark _))))) (@pss_one _ _ _ (ps_raiseJ rfl T.m_NoPurse T.xin_NoPurse (ok_NoPurse___init__ T) (hr.mono (by decide)) T.b_NoPurse___init__ (pa_more (pv 1) pa_nil))) pss_nil)))), ?_⟩
    refine ⟨_, rfl, W.x, W.dx, _, rfl, O.ob, wof_no _ _ _ _ _ _ _ _ (by decide +kernel), _, rfl, W, row, way, p, rfl, O, sp, ?_⟩
    rcases hc with ⟨z, g1⟩ | ⟨z, z2, g1⟩ | ⟨z, z2, hc⟩
    · exact .inl ⟨z, g1⟩
    · refine .inr ⟨z, ?_⟩
      exact ⟨_, rfl, W.x, W.dx, _, rfl, O.ob, wof_no _ _ _ _ _ _ _ _ (by decide +kernel), _, rfl, W, row, way, g, rfl, O, sg, .inl ⟨z2, g1⟩⟩
    · refine .inr ⟨z, ?_⟩
      refine ⟨_, rfl, W.x, W.dx, _, rfl, O.ob, wof_no _ _ _ _ _ _ _ _ (by decide +kernel), _, rfl, W, row, way, g, rfl, O, sg, .inr ⟨z2, ?_⟩⟩
      obtain ⟨i, rfl, _⟩ := isB_int z
      obtain ⟨j, rfl, _⟩ := isB_int z2
      refine ⟨_, rfl, _, rfl, W.x, _, W.dx, _, _, rfl, O.ob, T.cl_World, T.na_World_cheating, wof_cheating _ _ _ _ _ _ _ _, W.ch, _, rfl, .inl (SqL.of O.ch), rfl, O.cf, _, rfl, ?_⟩
      cases hi : inV (.int i) W.cv with
      | true =>
        refine iteT (iteT ⟨_, rfl, sz1, rzP ?_⟩)
        rcases hc with ⟨_, g1⟩ | ⟨z, _⟩
        · exact g1
        · rw [hi] at z; cases z
      | false =>
        refine iteF ⟨_, rfl, _, rfl, rfl, _, rfl, ite2 (fun y => ?_) (fun y => ?_)⟩
        · refine ⟨_, rfl, sz1, rzP ?_⟩
          rcases hc with ⟨_, g1⟩ | ⟨_, z, _⟩
          · exact g1
          · exact absurd (of_decide_eq_true y) z
        · rcases hc with ⟨z, _⟩ | ⟨_, _, q⟩
          · exfalso
            rcases z with z | z
            · rw [hi] at z; cases z
            · exact y (decide_eq_true z)
          · exact q
theorem ok_World_check_order (T : Txt K mg t) : FnOk P w K mg base (CX2 P w) 5 t.f_World_check_order t.d_World_check_order ["self", "order"] (fun vs H Q E => ∃ W row way o b, vs = [.ref W.x, o] ∧ WoC t H W row way ∧ OrdIs H W.n o b ∧ ((b = false ∧ Gone t E H .ord) ∨ (b = true ∧ Q .non H))) := by
  refine T.F_World_check_order.okY sc_World_check_order (fun vs H Q E h => ?_) (fun cdv A outer s H vs Q E hr h => ?_)
  · obtain ⟨W, row, way, o, b, rfl, _⟩ := h
    rfl
  · obtain ⟨W, row, way, o, b, rfl, O, ho, hc⟩ := h
    refine ⟨_, (@pss_one _ _ _ (ps_if (pt_not (pt_val (pe_callK (ok_is_order T) (hr.mono (by decide)) rfl T.m_is_order T.F_is_order.kp T.bk0_is_order pass0 (pa_more (pv 1) pa_nil) (pk_cons (pe_fld (pv 0) rfl) pk_nil)))) (@pss_one _ _ _ (ps_raise2 rfl T.m_BadOrder T.x_BadOrder (pa_more pe_str pa_nil))) pss_nil)), ?_⟩
    refine ⟨_, rfl, _, rfl, W.x, _, W.dx, _, _, rfl, O.ob, T.cl_World, T.na_World_purses, wof_purses _ _ _ _ _ _ _ _, o, W.n, b, rfl, ho, _, rfl, ?_⟩
    rcases hc with ⟨rfl, g⟩ | ⟨rfl, q⟩
    · exact iteT ⟨sz1, g _ (Same.refl _)⟩
    · exact iteF q
theorem ok_World_next_number (T : Txt K mg t) : FnOk P w K mg base (CX2 P w) 4 t.f_World_next_number t.d_World_next_number ["self", "purse"] (fun vs H Q E => ∃ W row way v, vs = [.ref W.x, v] ∧ WoC t H W row way ∧ simple v = true ∧ isB v 0 (W.n - 1) = false ∧ Gone t E H (.pur v)) := by
  refine T.F_World_next_number.okY sc_World_next_number (fun vs H Q E h => ?_) (fun cdv A outer s H vs Q E hr h => ?_)
  · obtain ⟨W, row, way, v, rfl, _⟩ := h
    rfl
  · obtain ⟨W, row, way, v, rfl, O, sv, z, g⟩ := h
    refine ⟨_, (@pss_cons _ _ _ _ _ (ps_expr (pe_meth (pv 0) T.cl_World T.mt_World_check_purse (ok_World_check_purse T) (hr.mono (by decide)) T.b_World_check_purse .nil pass2 (pa_more (pv 1) pa_nil)))
      pss_never), ?_⟩
    exact ⟨_, rfl, W.x, W.dx, _, rfl, O.ob, wof_no _ _ _ _ _ _ _ _ (by decide +kernel), _, rfl, W, row, way, v, rfl, O, sv, .inl ⟨z, g⟩⟩
theorem ok_World_letters (T : Txt K mg t) : FnOk P w K mg base CX0 1 t.f_World_letters t.d_World_letters ["self"] (fun vs H Q _ => ∃ W row way, vs = [.ref W.x] ∧ WoC t H W row way ∧ way.length ≤ 1000 ∧ ∀ r, H r = none → Q (.ref r) (upd H r (.lst way))) := by
  refine T.F_World_letters.ok sc_World_letters (fun vs H Q E h => ?_) (fun cdv A outer s H vs Q E hr h => ?_)
  · obtain ⟨W, row, way, rfl, _⟩ := h
    rfl
  · obtain ⟨W, row, way, rfl, O, l, k⟩ := h
    refine ⟨_, (@pss_one _ _ _ (ps_ret (pe_callTy call_list_of rfl T.n_list boot_list (pa_more (pe_fld (pv 0) rfl) pa_nil)))), ?_⟩
    exact ⟨_, rfl, W.x, _, W.dx, _, _, rfl, O.ob, T.cl_World, T.na_World_on_way, wof_on_way _ _ _ _ _ _ _ _, W.wy, _, rfl, .inl (SqL.of O.wy), k⟩
theorem for_dK {a : Addr} {o : Obj} {kvs : List (Key × V)} {g : TG} {tb : TS} {D : Ends} {σ : St} {H : Hp} (Pv : Nat → St → Hp → Prop) (h0 : Pv 0 σ H) (hl : ∀ i σ H, i ≤ kvs.length → Pv i σ H → H a = some (.frz o (.dK kvs)))
    (hs : ∀ i kv σ H, kvs[i]? = some kv → Pv i σ H → g (kV kv.1) σ H fun σ2 H2 => tb { D with nx := Pv (i + 1), ct := Pv (i + 1), bk := D.nx } σ2 H2) (hd : ∀ σ H, Pv kvs.length σ H → D.nx σ H) :
    ∃ W : Nat → Nat → St → Hp → Prop, (∃ m, W 0 m σ H) ∧ ∀ i m σ H, W i m σ H →
      ((Itd a o kvs).stop i H ∧ D.nx σ H) ∨ ((Itd a o kvs).go i H ∧ ∃ N : St → Hp → Prop, (∀ σ' H', N σ' H' → ∃ m', m' < m ∧ W (i + 1) m' σ' H') ∧ ∀ x H', (Itd a o kvs).yld i H x H' → g x σ H' fun σ2 H2 => tb { D with nx := N, ct := N, bk := D.nx } σ2 H2) := by
  refine ⟨fun i m σ H => m = kvs.length - i ∧ i ≤ kvs.length ∧ Pv i σ H, ⟨kvs.length, by simp, Nat.zero_le _, h0⟩, ?_⟩
  rintro i m σ H ⟨rfl, hi, p⟩
  have q := hl i σ H hi p
  by_cases hlt : i < kvs.length
  · refine .inr ⟨⟨hlt, q⟩, Pv (i + 1), fun σ' H' p' => ⟨kvs.length - (i + 1), by omega, rfl, hlt, p'⟩, fun x H' y => ?_⟩
    obtain ⟨e, kv, ek, ex⟩ := y
    subst e ex
    exact hs i kv σ _ ek p
  · have e : i = kvs.length := by omega
    subst e
    exact .inl ⟨⟨Nat.le_refl _, q⟩, hd σ H p⟩
theorem ok_World_write_to_all (T : Txt K mg t) : FnOk P w K mg base CX0 1 t.f_World_write_to_all t.d_World_write_to_all ["self", "word", "order"] (fun vs H Q _ => ∃ (W : Wo) (wd o : V) (way : List V), vs = [.ref W.x, wd, o] ∧ H W.x = some (.ins t.a_World W.dx W.fs) ∧ H W.kd = some (.dK W.kvs) ∧ H W.wy = some (.lst way) ∧ way.length + W.kvs.length ≤ 1000 ∧
    ∀ ts H', ts.length = W.kvs.length → H' W.wy = some (.lst (way ++ ts)) → Frm H W.wy H' → Q .non H') := by
  refine T.F_World_write_to_all.ok sc_World_write_to_all (fun vs H Q E h => ?_) (fun cdv A outer s H vs Q E hr h => ?_)
  · obtain ⟨W, wd, o, way, rfl, _⟩ := h
    rfl
  · obtain ⟨W, wd, o, way, rfl, ob, kd, wy, l, k⟩ := h
    refine ⟨_, (@pss_one _ _ _ (ps_thaw (ps_for PassesOwn.never rfl (pi_dK (pe_fld (pv 0) rfl)) (pg_name (i := 3) sc_World_write_to_all.nd rfl (Or.inl rfl)) (@pss_one _ _ _ (ps_expr (pe_bm PySem.F.plainAttrs_list PySem.F.slot_list_append PySem.F.type_list_append mt_append (pe_fld (pv 0) rfl) (pa_more (@pe_tup _ _ _ _ _ (@pa_3 _ _ _ _ _ _ _ (pv 1) (pv 3) (pv 2) rfl rfl rfl)) pa_nil))))))), ?_⟩
    have kw : W.kd ≠ W.wy := ne_of kd wy (by intro z; cases z)
    have kx : W.x ≠ W.kd := ne_of ob kd (by intro z; cases z)
    have wx : W.x ≠ W.wy := ne_of ob wy (by intro z; cases z)
    refine ⟨_, rfl, W.x, _, W.dx, _, _, rfl, ob, T.cl_World, T.na_World_keepers, wof_keepers _ _ _ _ _ _ _ _, W.kd, W.kvs, rfl, kd, fun oo => for_dK (fun i σ H' => ∃ v ts, σ = [some (.ref W.x), some wd, some o, v] ∧ ts.length = i ∧ H' W.wy = some (.lst (way ++ ts)) ∧ Frm (upd H W.kd (.frz oo (.dK W.kvs))) W.wy H') ?_ ?_ ?_ ?_⟩
    · exact ⟨none, [], rfl, rfl, (by rw [List.append_nil, upd_ne kw.symm]; exact wy), fun b u e _ => e⟩
    · rintro i σ H' _ ⟨v, ts, _, _, _, f⟩
      exact f _ _ upd_same kw
    · rintro i kv σ H' ek ⟨v, ts, rfl, lt, hw, f⟩
      have ob' : H' W.x = some (.ins t.a_World W.dx W.fs) := f _ _ (by rw [upd_ne kx]; exact ob) wx
      refine ⟨_, rfl, W.x, _, W.dx, _, _, rfl, ob', T.cl_World, T.na_World_on_way, wof_on_way _ _ _ _ _ _ _ _, .inl ⟨rfl, _, SqL.of hw⟩, _, rfl, _, rfl, _, rfl, zs3, fun p np => ?_⟩
      have sp := same_upd (o := .tup [wd, kV kv.1, o]) np
      have hi := (List.getElem?_eq_some_iff.mp ek).1
      refine ⟨W.wy, _, _, rfl, rfl, sp _ _ hw, small1000 (by rw [List.length_append, lt]; omega), _, ts ++ [.ref p], rfl, ?_, ?_, fun b u e bw => ?_⟩
      · rw [List.length_append, lt]; rfl
      · rw [upd_same, List.append_assoc]
      · rw [upd_ne bw]
        exact sp _ _ (f _ _ e bw)
    · rintro σ H' ⟨v, ts, rfl, lt, hw, f⟩
      refine ⟨W.kd, oo, .dK W.kvs, f _ _ upd_same kw, fun o' u' z => ?_, True.intro, ?_⟩
      · have z' : H W.kd = some (.frz o' u') := z
        rw [kd] at z'
        cases z'
      · refine k ts _ lt (by rw [upd_ne kw.symm]; exact hw) fun b u e bw => ?_
        by_cases z : b = W.kd
        · subst z
          rw [kd] at e
          rw [upd_same, ← e]
        · rw [upd_ne z]
          exact f _ _ (by rw [upd_ne z]; exact e) bw
def RCheat (t : Ad) (H : Hp) (vs : List V) (a : Ans) : Prop := ∃ W o h, vs = [.ref W.x, o, h] ∧ WoAt t H W ∧ simple h = true ∧ ((OrdIs H W.n o false ∧ a = .ord) ∨ (∃ q ou, o = .ref q ∧ H q = some (.tup (ordV ou)) ∧ OrdIs H W.n o true ∧ ((inV (.int ou.p) W.cv = false ∧ a = .pur (.int ou.p)) ∨ (inV (.int ou.p) W.cv = true ∧ notHon W h ∧ a = .hou h))))
theorem ok_World_cheat (T : Txt K mg t) : FnOk P w K mg base (CX2 P w) 6 t.f_World_cheat t.d_World_cheat ["self", "order", "house"] (fun vs H Q E => ∃ a, RCheat t H vs a ∧ Gone t E H a) := by
  refine T.F_World_cheat.okY sc_World_cheat (fun vs H Q E h => ?_) (fun cdv A outer s H vs Q E hr h => ?_)
  · obtain ⟨a, ⟨W, o, h, rfl, _⟩, _⟩ := h
    rfl
  · obtain ⟨a, ⟨W, o, h, rfl, O, sh, hc⟩, g⟩ := h
    refine ⟨_, (@pss_cons _ _ _ _ _ (ps_expr (pe_meth (pv 0) T.cl_World T.mt_World_check_order (ok_World_check_order T) (hr.mono (by decide)) T.b_World_check_order .nil pass2 (pa_more (pv 1) pa_nil)))
      (@pss_cons _ _ _ _ _ (ps_if (pt_cmpR op_notIn_seq (pe_ix ix_tup (pv 1) pe_int (fun _ _ => rfl)) (pe_fld (pv 0) rfl) (by with_unfolding_all rfl)) (@pss_one _ _ _ (ps_raiseJ rfl T.m_NoPurse T.xin_NoPurse (ok_NoPurse___init__ T) (hr.mono (by decide)) T.b_NoPurse___init__ (pa_more (pe_ix ix_tup (pv 1) pe_int (fun _ _ => rfl)) pa_nil))) pss_nil)
      (@pss_cons _ _ _ _ _ (ps_expr (pe_meth (pv 0) T.cl_World T.mt_World_keeper_of (ok_World_keeper_of T) (hr.mono (by decide)) T.b_World_keeper_of .nil pass2 (pa_more (pv 2) pa_nil)))
      pss_never))), ?_⟩
    have no : ∀ {m : Str}, (¬ m = "on_way" ∧ ¬ m = "asked" ∧ ¬ m = "board" ∧ ¬ m = "keepers" ∧ ¬ m = "cheating" ∧ ¬ m = "lying" ∧ ¬ m = "total" ∧ ¬ m = "purses") → (W.fs).lookup m = none := fun h => wof_no _ _ _ _ _ _ _ _ h
    rcases hc with ⟨ho, rfl⟩ | ⟨q, ou, rfl, hq, ho, hc⟩
    · exact ⟨_, rfl, W.x, W.dx, _, rfl, O.c.ob, no (by decide +kernel), _, rfl, W, _, _, o, false, rfl, O.c, ho, .inl ⟨rfl, g⟩⟩
    · refine ⟨_, rfl, W.x, W.dx, _, rfl, O.c.ob, no (by decide +kernel), _, rfl, W, _, _, _, true, rfl, O.c, ho, .inr ⟨rfl, ?_⟩⟩
      refine ⟨_, rfl, q, ordV ou, 0, .int ou.p, rfl, rfl, SqT.of hq, rfl, _, rfl, W.x, _, W.dx, _, _, rfl, O.c.ob, T.cl_World, T.na_World_cheating, wof_cheating _ _ _ _ _ _ _ _, W.ch, _, rfl, .inl (SqL.of O.c.ch), rfl, O.c.cf, _, rfl, ?_⟩
      rcases hc with ⟨z, rfl⟩ | ⟨z, nh, rfl⟩
      · rw [z]
        exact iteT ⟨_, rfl, q, ordV ou, 0, .int ou.p, rfl, rfl, SqT.of hq, rfl, sz1, rzP g⟩
      · rw [z]
        exact iteF ⟨_, rfl, W.x, W.dx, _, rfl, O.c.ob, no (by decide +kernel), _, rfl, W, h, rfl, O, sh, .inl ⟨nh, g⟩⟩
def RLie (t : Ad) (H : Hp) (vs : List V) (a : Ans) : Prop := ∃ W l o, vs = [.ref W.x, l, o] ∧ WoAt t H W ∧ simple l = true ∧ (((isI l = false ∨ inV l W.lv = false) ∧ a = .hou l) ∨ (isI l = true ∧ inV l W.lv = true ∧ ((OrdIs H W.n o false ∧ a = .ord) ∨ (∃ q r ou, o = .ref q ∧ H q = some (.tup (ordV ou)) ∧ OrdIs H W.n o true ∧ inV (.int ou.p) W.cv = false ∧ 0 ≤ ou.p ∧ W.ros[ou.p.toNat]? = some r ∧ a = .pur (.int ou.p)))))
theorem ok_World_lie (T : Txt K mg t) : FnOk P w K mg base (CX2 P w) 6 t.f_World_lie t.d_World_lie ["self", "liar", "order"] (fun vs H Q E => ∃ a, RLie t H vs a ∧ Gone t E H a) := by
  refine T.F_World_lie.okY sc_World_lie (fun vs H Q E h => ?_) (fun cdv A outer s H vs Q E hr h => ?_)
  · obtain ⟨a, ⟨W, o, h, rfl, _⟩, _⟩ := h
    rfl
  · obtain ⟨a, ⟨W, l, o, rfl, O, sl, hc⟩, g⟩ := h
    refine ⟨_, (@pss_cons _ _ _ _ _ (ps_expr (pe_meth (pv 0) T.cl_World T.mt_World_check_liar (ok_World_check_liar T) (hr.mono (by decide)) T.b_World_check_liar .nil pass2 (pa_more (pv 1) pa_nil)))
      (@pss_cons _ _ _ _ _ (ps_expr (pe_meth (pv 0) T.cl_World T.mt_World_check_order (ok_World_check_order T) (hr.mono (by decide)) T.b_World_check_order .nil pass2 (pa_more (pv 2) pa_nil)))
      (@pss_cons _ _ _ _ _ (ps_if (PW.pt (pw_and (pt_cmpR op_notIn_seq (pe_ix ix_tup (pv 2) pe_int (fun _ _ => rfl)) (pe_fld (pv 0) rfl) (by with_unfolding_all rfl)) (pw_and1 (pt_cmpR (op_notInT hr.units) (pv 2) (pe_ix ix_list (pe_fld (pv 0) rfl) (pe_ix ix_tup (pv 2) pe_int (fun _ _ => rfl)) (fun _ _ => rfl)) (by with_unfolding_all rfl))))) (@pss_one _ _ _ (ps_raiseJ rfl T.m_NoPurse T.xin_NoPurse (ok_NoPurse___init__ T) (hr.mono (by decide)) T.b_NoPurse___init__ (pa_more (pe_ix ix_tup (pv 2) pe_int (fun _ _ => rfl)) pa_nil))) pss_nil)
      pss_never))), ?_⟩
    have no : ∀ {m : Str}, (¬ m = "on_way" ∧ ¬ m = "asked" ∧ ¬ m = "board" ∧ ¬ m = "keepers" ∧ ¬ m = "cheating" ∧ ¬ m = "lying" ∧ ¬ m = "total" ∧ ¬ m = "purses") → (W.fs).lookup m = none := fun h => wof_no _ _ _ _ _ _ _ _ h
    rcases hc with ⟨z, rfl⟩ | ⟨z1, z2, hc⟩
    · exact ⟨_, rfl, W.x, W.dx, _, rfl, O.c.ob, no (by decide +kernel), _, rfl, W, l, rfl, O, sl, .inl ⟨z, g⟩⟩
    · refine ⟨_, rfl, W.x, W.dx, _, rfl, O.c.ob, no (by decide +kernel), _, rfl, W, l, rfl, O, sl, .inr ⟨z1, z2, ?_⟩⟩
      rcases hc with ⟨ho, rfl⟩ | ⟨q, r, ou, rfl, hq, ho, z, p0, er, rfl⟩
      · exact ⟨_, rfl, W.x, W.dx, _, rfl, O.c.ob, no (by decide +kernel), _, rfl, W, _, _, o, false, rfl, O.c, ho, .inl ⟨rfl, g⟩⟩
      · refine ⟨_, rfl, W.x, W.dx, _, rfl, O.c.ob, no (by decide +kernel), _, rfl, W, _, _, _, true, rfl, O.c, ho, .inr ⟨rfl, ?_⟩⟩
        refine ⟨_, rfl, q, ordV ou, 0, .int ou.p, rfl, rfl, SqT.of hq, rfl, _, rfl, W.x, _, W.dx, _, _, rfl, O.c.ob, T.cl_World, T.na_World_cheating, wof_cheating _ _ _ _ _ _ _ _, W.ch, _, rfl, .inl (SqL.of O.c.ch), rfl, O.c.cf, _, rfl, ?_⟩
        rw [z]
        refine iteT ?_
        refine ⟨_, rfl, _, rfl, W.x, _, W.dx, _, _, rfl, O.c.ob, T.cl_World, T.na_World_asked, wof_asked _ _ _ _ _ _ _ _, _, rfl, q, ordV ou, 0, .int ou.p, rfl, rfl, SqT.of hq, rfl, W.ak, _, ou.p, .ref r, rfl, rfl, SqL.of O.c.ak, atI_of p0 (by rw [List.getElem?_map, er]; rfl), r, [], [ou.p, ou.n, ou.g, ou.m], [], rfl, SqL.of (O.c.ro _ _ er), ⟨q, rfl, SqT.of hq⟩, .nil, _, rfl, ?_⟩
        exact iteT ⟨_, rfl, q, ordV ou, 0, .int ou.p, rfl, rfl, SqT.of hq, rfl, sz1, rzP g⟩
def RShow (t : Ad) (H : Hp) (vs : List V) (a : Ans) : Prop := ∃ W o h, vs = [.ref W.x, o, h] ∧ WoAt t H W ∧ simple h = true ∧ ((notHon W h ∧ a = .hou h) ∨ (∃ i u q ou, h = .int i ∧ valV W.kvs (.inl i) = some u ∧ o = .ref q ∧ H q = some (.tup (ordV ou)) ∧ OrdIs H W.n o true ∧ 0 < W.en ∧ a = .pap))
def ordK (o : O) : List Key := [.inl o.p, .inl o.n, .inl o.g, .inl o.m]
theorem ok_World_show (T : Txt K mg t) : FnOk P w K mg base (CX2 P w) 6 t.f_World_show t.d_World_show ["self", "order", "house"] (fun vs H Q E => ∃ a, RShow t H vs a ∧ Gone t E H a) := by
  refine T.F_World_show.okY sc_World_show (fun vs H Q E h => ?_) (fun cdv A outer s H vs Q E hr h => ?_)
  · obtain ⟨a, ⟨W, o, h, rfl, _⟩, _⟩ := h
    rfl
  · obtain ⟨a, ⟨W, o, h, rfl, O, sh, hc⟩, g⟩ := h
    refine ⟨_, (@pss_cons _ _ _ _ _ (ps_expr (pe_meth (pv 0) T.cl_World T.mt_World_keeper_of (ok_World_keeper_of T) (hr.mono (by decide)) T.b_World_keeper_of .nil pass2 (pa_more (pv 2) pa_nil)))
      (@pss_cons _ _ _ _ _ (ps_if (PW.pt (pw_or (pt_not (pt_val (pe_callK (ok_is_order T) (hr.mono (by decide)) rfl T.m_is_order T.F_is_order.kp T.bk0_is_order pass0 (pa_more (pv 1) pa_nil) (pk_cons (pe_fld (pv 0) rfl) pk_nil)))) (pw_or1 (pt_not (pt_val (pe_meth (pe_fld (pv 0) rfl) T.cl_Board T.mt_Board_is_carried (ok_Board_is_carried T) (hr.mono (by decide)) T.b_Board_is_carried .nil pass0 (pa_more (pv 1) pa_nil))))))) (@pss_one _ _ _ (ps_raise2 rfl T.m_BadPaper T.x_BadPaper (pa_more pe_str pa_nil))) pss_nil)
      pss_never)), ?_⟩
    have no : ∀ {m : Str}, (¬ m = "on_way" ∧ ¬ m = "asked" ∧ ¬ m = "board" ∧ ¬ m = "keepers" ∧ ¬ m = "cheating" ∧ ¬ m = "lying" ∧ ¬ m = "total" ∧ ¬ m = "purses") → (W.fs).lookup m = none := fun h => wof_no _ _ _ _ _ _ _ _ h
    rcases hc with ⟨nh, rfl⟩ | ⟨i, u, q, ou, rfl, hu, rfl, hq, ho, en, rfl⟩
    · exact ⟨_, rfl, W.x, W.dx, _, rfl, O.c.ob, no (by decide +kernel), _, rfl, W, h, rfl, O, sh, .inl ⟨nh, g⟩⟩
    · refine ⟨_, rfl, W.x, W.dx, _, rfl, O.c.ob, no (by decide +kernel), _, rfl, W, _, rfl, O, sh, .inr ⟨i, u, rfl, hu, ?_⟩⟩
      refine ⟨_, rfl, _, rfl, W.x, _, W.dx, _, _, rfl, O.c.ob, T.cl_World, T.na_World_purses, wof_purses _ _ _ _ _ _ _ _, .ref q, W.n, true, rfl, ho, _, rfl, iteF ?_⟩
      refine ⟨_, rfl, W.x, _, W.dx, _, _, rfl, O.c.ob, T.cl_World, T.na_World_board, wof_board _ _ _ _ _ _ _ _, W.bd, W.db, _, rfl, O.c.bd.ob, brd_no _ _ (by decide +kernel) (by decide +kernel), _, rfl, W.bd, W.db, W.S, W.en, [], [], q, ordK ou, rfl, O.c.bd.rd, hq, fun H1 s1 => ⟨_, rfl, ?_⟩⟩
      rw [show decide (W.en ≤ ((housesOf [] (ordK ou)).length : Int)) = false from decide_eq_false (by show ¬ W.en ≤ 0; omega)]
      exact iteT ⟨sz1, g _ s1⟩
def RCome (t : Ad) (H : Hp) (vs : List V) (a : Ans) : Prop := ∃ W v, vs = [.ref W.x, v] ∧ WoAt t H W ∧ simple v = true ∧ isB v 0 (-1) = false ∧ a = .let_
theorem ok_World_come (T : Txt K mg t) : FnOk P w K mg base (CX2 P w) 6 t.f_World_come t.d_World_come ["self", "at"] (fun vs H Q E => ∃ a, RCome t H vs a ∧ Gone t E H a) := by
  refine T.F_World_come.okY sc_World_come (fun vs H Q E h => ?_) (fun cdv A outer s H vs Q E hr h => ?_)
  · obtain ⟨a, ⟨W, v, rfl, _⟩, _⟩ := h
    rfl
  · obtain ⟨a, ⟨W, v, rfl, O, sv, z, rfl⟩, g⟩ := h
    refine ⟨_, (@pss_cons _ _ _ _ _ (ps_if (pt_not (pt_val (pe_call (ok_is_between T) (hr.mono (by decide)) rfl T.m_is_between T.F_is_between.kp T.b_is_between .nil pass0 (@pa_3 _ _ _ _ _ _ _ (pv 1) pe_int (pe_op op_sub (pe_callB call_len_seq rfl T.n_len boot_len (pa_more (pe_fld (pv 0) rfl) pa_nil)) pe_int) rfl rfl rfl)))) (@pss_one _ _ _ (ps_raise2 rfl T.m_NoLetter T.x_NoLetter (pa_more pe_str pa_nil))) pss_nil)
      pss_never), ?_⟩
    refine ⟨_, rfl, _, rfl, W.x, _, W.dx, _, _, rfl, O.c.ob, T.cl_World, T.na_World_on_way, wof_on_way _ _ _ _ _ _ _ _, W.wy, _, rfl, .inl (SqL.of O.c.wy), _, _, rfl, rfl, v, 0, -1, rfl, .inl sv, _, rfl, ?_⟩
    rw [z]
    exact iteT ⟨sz1, g _ (Same.refl _)⟩
def RSums (t : Ad) (H : Hp) (vs : List V) (a : Ans) : Prop := ∃ W v, vs = [.ref W.x, v] ∧ WoAt t H W ∧ simple v = true ∧ notHon W v ∧ a = .hou v
theorem ok_World_sums (T : Txt K mg t) : FnOk P w K mg base (CX2 P w) 6 t.f_World_sums t.d_World_sums ["self", "house"] (fun vs H Q E => ∃ a, RSums t H vs a ∧ Gone t E H a) := by
  refine T.F_World_sums.okY sc_World_sums (fun vs H Q E h => ?_) (fun cdv A outer s H vs Q E hr h => ?_)
  · obtain ⟨a, ⟨W, v, rfl, _⟩, _⟩ := h
    rfl
  · obtain ⟨a, ⟨W, v, rfl, O, sv, z, rfl⟩, g⟩ := h
    refine ⟨_, (@pss_one _ _ _ (ps_ret (pe_callTy call_list_of rfl T.n_list boot_list (pa_more (pe_fld (pe_meth (pv 0) T.cl_World T.mt_World_keeper_of (ok_World_keeper_of T) (hr.mono (by decide)) T.b_World_keeper_of .nil pass2 (pa_more (pv 1) pa_nil)) rfl) pa_nil)))), ?_⟩
    exact ⟨_, rfl, W.x, W.dx, _, rfl, O.c.ob, wof_no _ _ _ _ _ _ _ _ (by decide +kernel), _, rfl, W, v, rfl, O, sv, .inl ⟨z, g⟩⟩
def RVoted (t : Ad) (H : Hp) (vs : List V) (a : Ans) : Prop := ∃ W h p n, vs = [.ref W.x, h, p, n] ∧ WoAt t H W ∧ simple h = true ∧ simple p = true ∧ ((notHon W h ∧ a = .hou h) ∨ (∃ i u, h = .int i ∧ valV W.kvs (.inl i) = some u ∧ isB p 0 (W.n - 1) = false ∧ a = .pur p))
theorem ok_World_voted (T : Txt K mg t) : FnOk P w K mg base (CX2 P w) 6 t.f_World_voted t.d_World_voted ["self", "house", "purse", "number"] (fun vs H Q E => ∃ a, RVoted t H vs a ∧ Gone t E H a) := by
  refine T.F_World_voted.okY sc_World_voted (fun vs H Q E h => ?_) (fun cdv A outer s H vs Q E hr h => ?_)
  · obtain ⟨a, ⟨W, h, p, n, rfl, _⟩, _⟩ := h
    rfl
  · obtain ⟨a, ⟨W, h, p, n, rfl, O, sh, sp, hc⟩, g⟩ := h
    refine ⟨_, (@pss_cons _ _ _ _ _ (ps_set (i := 4) sc_World_voted.nd rfl (Or.inl rfl) (pe_meth (pv 0) T.cl_World T.mt_World_keeper_of (ok_World_keeper_of T) (hr.mono (by decide)) T.b_World_keeper_of .nil pass2 (pa_more (pv 1) pa_nil)))
      (@pss_cons _ _ _ _ _ (ps_expr (pe_meth (pv 0) T.cl_World T.mt_World_check_purse (ok_World_check_purse T) (hr.mono (by decide)) T.b_World_check_purse .nil pass2 (pa_more (pv 2) pa_nil)))
      pss_never)), ?_⟩
    have no : ∀ {m : Str}, (¬ m = "on_way" ∧ ¬ m = "asked" ∧ ¬ m = "board" ∧ ¬ m = "keepers" ∧ ¬ m = "cheating" ∧ ¬ m = "lying" ∧ ¬ m = "total" ∧ ¬ m = "purses") → (W.fs).lookup m = none := fun h => wof_no _ _ _ _ _ _ _ _ h
    rcases hc with ⟨nh, rfl⟩ | ⟨i, u, rfl, hu, z, rfl⟩
    · exact ⟨_, rfl, W.x, W.dx, _, rfl, O.c.ob, no (by decide +kernel), _, rfl, W, h, rfl, O, sh, .inl ⟨nh, g⟩⟩
    · refine ⟨_, rfl, W.x, W.dx, _, rfl, O.c.ob, no (by decide +kernel), _, rfl, W, _, rfl, O, sh, .inr ⟨i, u, rfl, hu, ?_⟩⟩
      exact ⟨_, rfl, W.x, W.dx, _, rfl, O.c.ob, no (by decide +kernel), _, rfl, W, _, _, p, rfl, O.c, sp, .inl ⟨z, g⟩⟩
def RPaper (t : Ad) (H : Hp) (vs : List V) (a : Ans) : Prop := ∃ W o, vs = [.ref W.x, o] ∧ WoAt t H W ∧ ((OrdIs H W.n o false ∧ a = .ord) ∨ (∃ q ou, o = .ref q ∧ H q = some (.tup (ordV ou)) ∧ OrdIs H W.n o true ∧ 0 < W.en ∧ a = .pap))
theorem ok_World_paper (T : Txt K mg t) : FnOk P w K mg base (CX2 P w) 6 t.f_World_paper t.d_World_paper ["self", "order"] (fun vs H Q E => ∃ a, RPaper t H vs a ∧ Gone t E H a) := by
  refine T.F_World_paper.okY sc_World_paper (fun vs H Q E h => ?_) (fun cdv A outer s H vs Q E hr h => ?_)
  · obtain ⟨a, ⟨W, o, rfl, _⟩, _⟩ := h
    rfl
  · obtain ⟨a, ⟨W, o, rfl, O, hc⟩, g⟩ := h
    refine ⟨_, (@pss_cons _ _ _ _ _ (ps_expr (pe_meth (pv 0) T.cl_World T.mt_World_check_order (ok_World_check_order T) (hr.mono (by decide)) T.b_World_check_order .nil pass2 (pa_more (pv 1) pa_nil)))
      (@pss_cons _ _ _ _ _ (ps_if (pt_not (pt_val (pe_meth (pe_fld (pv 0) rfl) T.cl_Board T.mt_Board_is_carried (ok_Board_is_carried T) (hr.mono (by decide)) T.b_Board_is_carried .nil pass0 (pa_more (pv 1) pa_nil)))) (@pss_one _ _ _ (ps_raise2 rfl T.m_BadPaper T.x_BadPaper (pa_more pe_str pa_nil))) pss_nil)
      pss_never)), ?_⟩
    have no : ∀ {m : Str}, (¬ m = "on_way" ∧ ¬ m = "asked" ∧ ¬ m = "board" ∧ ¬ m = "keepers" ∧ ¬ m = "cheating" ∧ ¬ m = "lying" ∧ ¬ m = "total" ∧ ¬ m = "purses") → (W.fs).lookup m = none := fun h => wof_no _ _ _ _ _ _ _ _ h
    rcases hc with ⟨ho, rfl⟩ | ⟨q, ou, rfl, hq, ho, en, rfl⟩
    · exact ⟨_, rfl, W.x, W.dx, _, rfl, O.c.ob, no (by decide +kernel), _, rfl, W, _, _, o, false, rfl, O.c, ho, .inl ⟨rfl, g⟩⟩
    · refine ⟨_, rfl, W.x, W.dx, _, rfl, O.c.ob, no (by decide +kernel), _, rfl, W, _, _, _, true, rfl, O.c, ho, .inr ⟨rfl, ?_⟩⟩
      refine ⟨_, rfl, W.x, _, W.dx, _, _, rfl, O.c.ob, T.cl_World, T.na_World_board, wof_board _ _ _ _ _ _ _ _, W.bd, W.db, _, rfl, O.c.bd.ob, brd_no _ _ (by decide +kernel) (by decide +kernel), _, rfl, W.bd, W.db, W.S, W.en, [], [], q, ordK ou, rfl, O.c.bd.rd, hq, fun H1 s1 => ⟨_, rfl, ?_⟩⟩
      rw [show decide (W.en ≤ ((housesOf [] (ordK ou)).length : Int)) = false from decide_eq_false (by show ¬ W.en ≤ 0; omega)]
      exact iteT ⟨sz1, g _ s1⟩
def RAsk (t : Ad) (H : Hp) (vs : List V) (a : Ans) : Prop := ∃ W row way p g m, vs = [.ref W.x, p, g, m] ∧ WoC t H W row way ∧ simple p = true ∧ simple g = true ∧ simple m = true ∧
  ((isB p 0 (W.n - 1) = false ∧ a = .pur p) ∨ (isB p 0 (W.n - 1) = true ∧ isB g 0 (W.n - 1) = false ∧ a = .pur g) ∨ (isB p 0 (W.n - 1) = true ∧ isB g 0 (W.n - 1) = true ∧ ((inV p W.cv = true ∨ g = p) ∧ a = .pur p ∨ (inV p W.cv = false ∧ g ≠ p ∧
    ((isB m 1 1000 = false ∧ a = .num) ∨ (isB m 1 1000 = true ∧ ∃ i r, p = .int i ∧ W.ros[i.toNat]? = some r ∧
      ((∃ q ou, row i.toNat = [.ref q] ∧ H q = some (.tup (ordV ou)) ∧ 0 < W.en ∧ a = .now) ∨ (∃ k z, row i.toNat = [] ∧ m = .int k ∧ H W.kd = some (.dK W.kvs) ∧ (∀ kv ∈ W.kvs, ∃ k, kv.2 = .ref k ∧ KeepAt t H k W.ns) ∧ 0 < W.kvs.length ∧ W.kvs.length ≤ 100 ∧ W.ns[i.toNat]? = some z ∧ z < k ∧ a = .much))))))))
def TAsk (t : Ad) (H : Hp) (vs : List V) (W : Wo) (i : Int) (r : Addr) : Prop := ∃ j k z, vs = [.ref W.x, .int i, .int j, .int k] ∧ WoAt t H W ∧ Apart W ∧ (0 ≤ i ∧ i ≤ W.n - 1) ∧ (0 ≤ j ∧ j ≤ W.n - 1) ∧ inV (.int i) W.cv = false ∧ j ≠ i ∧ (1 ≤ k ∧ k ≤ 1000) ∧ W.ros[i.toNat]? = some r ∧ 0 < W.kvs.length ∧ W.kvs.length ≤ 100 ∧ W.ns[i.toNat]? = some z ∧ k ≤ z
theorem lc_vK {a : Addr} {o : Obj} {kvs : List (Key × V)} {g : TG} {ti : TT} {te : TE} {σ0 : St} {H0 : Hp} {Q : VK} (Pv : Nat → List V → St → Hp → Prop) (h0 : Pv 0 [] σ0 H0)
    (hl : ∀ i ys σ H, i ≤ kvs.length → Pv i ys σ H → H a = some (.frz o (.dK kvs)) ∧ ys.length ≤ sizeLine)
    (hs : ∀ i kv ys σ H, kvs[i]? = some kv → Pv i ys σ H → g kv.2 σ H fun σ2 H2 => ti σ2 H2 fun c H3 => if c = true then te σ2 H3 fun y H4 => Pv (i + 1) (ys ++ [y]) σ2 H4 else Pv (i + 1) ys σ2 H3)
    (hd : ∀ ys σ H, Pv kvs.length ys σ H → ∀ p, H p = none → Q (.ref p) (upd H p (.lst ys))) :
    ∃ W : Nat → Nat → List V → St → Hp → Prop, (∃ m, W 0 m [] σ0 H0) ∧ ∀ i m ys σ H, W i m ys σ H →
      ys.length ≤ sizeLine ∧ (((Itv a o kvs).stop i H ∧ lcEnd Q ys H) ∨
        ((Itv a o kvs).go i H ∧ ∃ N : List V → St → Hp → Prop, (∀ ys' σ' H', N ys' σ' H' → ∃ m', m' < m ∧ W (i + 1) m' ys' σ' H') ∧
          ∀ x H', (Itv a o kvs).yld i H x H' → g x σ H' fun σ2 H2 => ti σ2 H2 fun b H3 => if b = true then te σ2 H3 fun y H4 => N (ys ++ [y]) σ2 H4 else N ys σ2 H3)) := by
  refine ⟨fun i m ys σ H => m = kvs.length - i ∧ i ≤ kvs.length ∧ Pv i ys σ H, ⟨kvs.length, by simp, Nat.zero_le _, h0⟩, ?_⟩
  rintro i m ys σ H ⟨rfl, hi, p⟩
  obtain ⟨q, hz⟩ := hl i ys σ H hi p
  refine ⟨hz, ?_⟩
  by_cases hlt : i < kvs.length
  · refine .inr ⟨⟨hlt, q⟩, Pv (i + 1), fun ys' σ' H' p' => ⟨kvs.length - (i + 1), by omega, rfl, hlt, p'⟩, fun x H' y => ?_⟩
    obtain ⟨e, kv, ek, ex⟩ := y
    subst e ex
    exact hs i kv ys σ _ ek p
  · have e : i = kvs.length := by omega
    subst e
    exact .inl ⟨⟨Nat.le_refl _, q⟩, hd ys σ H p⟩
theorem isB_of {i l h : Int} (a : l ≤ i) (b : i ≤ h) : isB (.int i) l h = true := decide_eq_true ⟨a, b⟩
theorem ok_World_ask (T : Txt K mg t) : FnOk P w K mg base (CX2 P w) 6 t.f_World_ask t.d_World_ask ["self", "purse", "goal", "much"] (fun vs H Q E => (∃ a, RAsk t H vs a ∧ Gone t E H a) ∨ (∃ W i r, TAsk t H vs W i r ∧ ∀ v H' q ou ts row, WoC t H' W row ts → ts.length = W.kvs.length → row i.toNat = [.ref q] → H' q = some (.tup (ordV ou)) → Q v H')) := by
  refine T.F_World_ask.okY sc_World_ask (fun vs H Q E h => ?_) (fun cdv A outer s H vs Q E hr h => ?_)
  · rcases h with ⟨a, ⟨W, row, way, p, g, m, rfl, _⟩, _⟩ | ⟨W, i, r, ⟨j, k, z, rfl, _⟩, _⟩
    · rfl
    · rfl
  · have hno : ∀ (W : Wo) {m : Str}, (¬ m = "on_way" ∧ ¬ m = "asked" ∧ ¬ m = "board" ∧ ¬ m = "keepers" ∧ ¬ m = "cheating" ∧ ¬ m = "lying" ∧ ¬ m = "total" ∧ ¬ m = "purses") → (W.fs).lookup m = none := fun W {m} h => wof_no _ _ _ _ _ _ _ _ h
    rcases h with ⟨a, ⟨W, row, way, p, g, m, rfl, O, sp, sg, sm, hc⟩, ga⟩ | ⟨W, i, r, ⟨j, k, zz, rfl, O, ap, ⟨i0, i1⟩, ⟨j0, j1⟩, ic, ji, ⟨k0, k1⟩, er, l0, l1, ez, kz⟩, q⟩
    · refine ⟨_, (@pss_cons _ _ _ _ _ (ps_expr (pe_meth (pv 0) T.cl_World T.mt_World_check_asker (ok_World_check_asker T) (hr.mono (by decide)) T.b_World_check_asker .nil pass2 (@pa_2 _ _ _ _ _ (pv 1) (pv 2) rfl rfl)))
      (@pss_cons _ _ _ _ _ (ps_if (pt_not (pt_val (pe_call (ok_is_between T) (hr.mono (by decide)) rfl T.m_is_between T.F_is_between.kp T.b_is_between .nil pass0 (@pa_3 _ _ _ _ _ _ _ (pv 3) pe_int (pe_glob (v := .int 1000) rfl T.c_MOST_MUCH.choose_spec ⟨_, rfl⟩) rfl rfl rfl)))) (@pss_one _ _ _ (ps_raise2 rfl T.m_BadNumber T.x_BadNumber (pa_more pe_str pa_nil))) pss_nil)
      (@pss_cons _ _ _ _ _ (ps_set (i := 4) sc_World_ask.nd rfl (Or.inr rfl) (pe_ix ix_list (pe_fld (pv 0) rfl) (pv 1) (fun _ _ => rfl)))
      (@pss_cons _ _ _ _ _ (ps_if (PW.pt (pw_or (pt_cmpR op_gt (pe_callB call_len_seq rfl T.n_len boot_len (pa_more (pv 4) pa_nil)) (pe_glob (v := .int 99) rfl T.c_LAST_NUMBER.choose_spec ⟨_, rfl⟩) (nomark _)) (pw_or1 (PW.pt (pw_and (pt_truth (pv 4) (fun _ => rfl)) (pw_and1 (pt_not (pt_val (pe_meth (pe_fld (pv 0) rfl) T.cl_Board T.mt_Board_is_carried (ok_Board_is_carried T) (hr.mono (by decide)) T.b_Board_is_carried .nil pass0 (pa_more (pe_ix ix_list (pv 4) (pe_un un_neg pe_int) (fun _ _ => rfl)) pa_nil)))))))))) (@pss_one _ _ _ (ps_raise2 rfl T.m_NotNow T.x_NotNow (pa_more pe_str pa_nil))) pss_nil)
      (@pss_cons _ _ _ _ _ (ps_if (pt_cmpR op_gt (pv 3) (pe_callB (call_maxL rfl) rfl T.n_max boot_max (pa_more (pe_thaw (pe_lcomp (N' := ["keeper", "purse", "asked"]) (ix := [none, some 1, some 4]) (compOk_is (by kernel_rfl)) rfl (pi_vK (pe_bm0 PySem.F.plainAttrs_dict PySem.F.slot_dict_values PySem.F.type_dict_values mt_values (pe_fld (pv 0) rfl))) (fun _ _ _ _ => (pg_name (i := 0) nd_4 rfl (Or.inl rfl) (.inr rfl))) (fun _ _ _ _ => pif_nil) (fun _ _ _ _ => (pe_meth (pv 0) T.cl_Keeper T.mt_Keeper_left_of (ok_Keeper_left_of T) (hr.mono (by decide)) T.b_Keeper_left_of .nil pass0 (@pa_2 _ _ _ _ _ (pv 1) (pv 2) rfl rfl))))) pa_nil)) (nomark _)) (@pss_one _ _ _ (ps_raise2 rfl T.m_TooMuch T.x_TooMuch (pa_more pe_str pa_nil))) pss_nil)
      (@pss_cons _ _ _ _ _ (@ps_set _ _ 5 _ _ _ _ sc_World_ask.nd rfl (Or.inl rfl) (@pe_tup _ _ _ _ _ (@pa_4 _ _ _ _ _ _ _ _ _ (pv 1) (pe_callB call_len_seq rfl T.n_len boot_len (pa_more (pv 4) pa_nil)) (pv 2) (pv 3) rfl rfl rfl rfl)) (by rfl) (by first | exact .inl rfl | exact .inr rfl))
      (@pss_cons _ _ _ _ _ (ps_expr (pe_bm PySem.F.plainAttrs_list PySem.F.slot_list_append PySem.F.type_list_append mt_append (pv 4) (pa_more (pv 5) pa_nil)))
      (@pss_cons _ _ _ _ _ (ps_expr (pe_meth (pv 0) T.cl_World T.mt_World_write_to_all (ok_World_write_to_all T) (hr.mono (by decide)) T.b_World_write_to_all .nil pass0 (@pa_2 _ _ _ _ _ (pe_glob (v := .str "order") rfl T.c_ORDER_LETTER.choose_spec ⟨_, rfl⟩) (pv 5) rfl rfl)))
      (@pss_one _ _ _ (ps_ret (pv 5))))))))))), ?_⟩
      rcases hc with ⟨z, rfl⟩ | ⟨z, z2, rfl⟩ | ⟨z, z2, hc⟩
      · exact ⟨_, rfl, W.x, W.dx, _, rfl, O.ob, hno W (by decide +kernel), _, rfl, _, rfl, W, row, way, p, g, rfl, O, sp, sg, .inl ⟨z, ga⟩⟩
      · exact ⟨_, rfl, W.x, W.dx, _, rfl, O.ob, hno W (by decide +kernel), _, rfl, _, rfl, W, row, way, p, g, rfl, O, sp, sg, .inr (.inl ⟨z, z2, ga⟩)⟩
      · rcases hc with ⟨y, rfl⟩ | ⟨y, yn, hc⟩
        · exact ⟨_, rfl, W.x, W.dx, _, rfl, O.ob, hno W (by decide +kernel), _, rfl, _, rfl, W, row, way, p, g, rfl, O, sp, sg, .inr (.inr ⟨z, z2, .inl ⟨y, ga⟩⟩)⟩
        refine ⟨_, rfl, W.x, W.dx, _, rfl, O.ob, hno W (by decide +kernel), _, rfl, _, rfl, W, row, way, p, g, rfl, O, sp, sg, .inr (.inr ⟨z, z2, .inr ⟨y, yn, ?_⟩⟩)⟩
        refine ⟨_, rfl, m, 1, 1000, rfl, .inl sm, _, rfl, ?_⟩
        rcases hc with ⟨em, rfl⟩ | ⟨em, i, r, rfl, er, hc⟩
        · rw [em]
          exact iteT ⟨sz1, ga _ (Same.refl _)⟩
        rw [em]
        refine iteF ?_
        obtain ⟨i', e', i0, i1⟩ := isB_int z
        cases e'
        refine ⟨_, rfl, W.x, _, W.dx, _, _, rfl, O.ob, T.cl_World, T.na_World_asked, wof_asked _ _ _ _ _ _ _ _, _, rfl, W.ak, _, i, .ref r, rfl, rfl, SqL.of O.ak, atI_of i0 (by rw [List.getElem?_map, er]; rfl), ?_⟩
        have hr0 := O.ro _ _ er
        rcases hc with ⟨q, ou, erow, hq, en, rfl⟩ | ⟨k, zz, erow, rfl, kd, kp, l0, l1, ez, lt, rfl⟩
        · rw [erow] at hr0
          refine ⟨_, rfl, r, _, rfl, .inl (SqL.of hr0), _, _, rfl, rfl, _, rfl, ite2 (fun z => absurd (of_decide_eq_true z) (by show ¬ (99 : Int) < 1; decide)) (fun _ => ?_)⟩
          refine ⟨_, rfl, true, .inl ⟨_, SqL.of hr0, rfl⟩, iteT ?_⟩
          refine ⟨_, rfl, W.x, _, W.dx, _, _, rfl, O.ob, T.cl_World, T.na_World_board, wof_board _ _ _ _ _ _ _ _, W.bd, W.db, _, rfl, O.bd.ob, brd_no _ _ (by decide +kernel) (by decide +kernel), _, rfl, _, rfl, r, _, -1, .ref q, rfl, rfl, SqL.of hr0, rfl, W.bd, W.db, W.S, W.en, [], [], q, ordK ou, rfl, O.bd.rd, hq, fun H1 s1 => ⟨_, rfl, ?_⟩⟩
          rw [show decide (W.en ≤ ((housesOf [] (ordK ou)).length : Int)) = false from decide_eq_false (by show ¬ W.en ≤ 0; omega)]
          exact iteT ⟨sz1, ga _ s1⟩
        · rw [erow] at hr0
          have OC := O
          refine ⟨_, rfl, r, _, rfl, .inl (SqL.of hr0), _, _, rfl, rfl, _, rfl, ite2 (fun z => absurd (of_decide_eq_true z) (by show ¬ (99 : Int) < 0; decide)) (fun _ => ?_)⟩
          refine ⟨_, rfl, false, .inl ⟨_, SqL.of hr0, rfl⟩, iteF ?_⟩
          refine ⟨_, rfl, _, rfl, W.x, _, W.dx, _, _, rfl, OC.ob, T.cl_World, T.na_World_keepers, wof_keepers _ _ _ _ _ _ _ _, .inr (.inr (.inl ⟨rfl, .inl ⟨_, kd⟩⟩)), W.kd, W.kvs, rfl, rfl, kd, fun vw hvw => ?_⟩
          have sv := same_upd (o := ViewV vw W.kd) hvw
          have kd1 := sv _ _ kd
          have kp1 : ∀ kv ∈ W.kvs, ∃ k, kv.2 = .ref k ∧ KeepAt t _ k W.ns := fun kv hkv => let ⟨k, e, q⟩ := kp kv hkv; ⟨k, e, q.same sv⟩
          have hr1 := sv _ _ hr0
          have gv : upd H vw (ViewV vw W.kd) vw = some (ViewV vw W.kd) := upd_same
          generalize upd H vw (ViewV vw W.kd) = H1 at sv kd1 kp1 gv hr1
          have keep : ∀ {o : Obj} {b : Addr} {u : HO}, H1 b = some u → (∀ ks, u ≠ .dK ks) → upd H1 W.kd (.frz o (.dK W.kvs)) b = some u := fun {o b u} e hu => by
            rw [upd_ne (ne_of e kd1 (hu _))]
            exact e
          refine ⟨vw, W.kd, W.kvs, rfl, gv, kd1, fun oo => lc_vK (fun i' ys σ H' => ∃ v0, σ = [v0, some (.int i), some (.ref r)] ∧ Same (upd H1 W.kd (.frz oo (.dK W.kvs))) H' ∧ ys = (List.replicate i' zz).map V.int) ⟨none, rfl, Same.refl _, rfl⟩ ?_ ?_ ?_⟩
          · rintro i' ys σ H' hi ⟨v0, rfl, sm, rfl⟩
            refine ⟨sm _ _ upd_same, len1000 ?_⟩
            rw [List.length_map, List.length_replicate]
            omega
          · rintro i' kv ys σ H' ek ⟨v0, rfl, sm, rfl⟩
            obtain ⟨kk, ek2, dk, he, nn, dn, hd, un, cs, wt, q1, q2⟩ := kp1 kv (List.mem_of_getElem? ek)
            rw [ek2]
            have q1' := sm _ _ (keep q1 fun _ z => by cases z)
            have q2' := sm _ _ (keep q2 fun _ z => by cases z)
            have hr2 := sm _ _ (keep hr1 fun _ z => by cases z)
            dsimp only [gName, tYes]
            rw [if_pos rfl]
            refine ⟨_, rfl, kk, dk, _, rfl, q1', kf_no _ _ _ _ _ _ _ (by decide +kernel), _, rfl, _, rfl, kk, W.ns, r, i, zz, rfl, ⟨dk, he, nn, dn, hd, un, cs, wt, q1', q2'⟩, hr2, i0, ez, fun H'' s'' => ⟨_, rfl, sm.trans s'', ?_⟩⟩
            rw [List.replicate_succ', List.map_append]
            rfl
          · rintro ys σ H' ⟨v0, rfl, sm, rfl⟩ L nL
            have hD' := sm _ _ (upd_same (H := H1) (a := W.kd) (o := .frz oo (.dK W.kvs)))
            have LD : L ≠ W.kd := (ne_of_none hD' nL).symm
            have SF : Same H (upd (upd H' L (.lst ((List.replicate W.kvs.length zz).map V.int))) W.kd (.dK W.kvs)) := fun c u hc => by
              have h1 := sv _ _ hc
              by_cases z : c = W.kd
              · subst z
                rw [kd1] at h1
                rw [upd_same, h1]
              · have hc' : H' c = some u := sm _ _ (by rw [upd_ne z]; exact h1)
                rw [upd_ne z, upd_ne (ne_of_none hc' nL)]
                exact hc'
            refine ⟨W.kd, oo, .dK W.kvs, (by rw [upd_ne LD.symm]; exact hD'), fun o' u' z => ?_, True.intro, L, List.replicate W.kvs.length zz, rfl, SqL.of (by rw [upd_ne LD]; exact upd_same), (by rw [List.length_replicate]; exact l0), fun M hM _ => ?_⟩
            · have z' : H W.kd = some (.frz o' u') := z
              rw [kd] at z'
              cases z'
            · have eM : M = zz := List.eq_of_mem_replicate hM
              subst eM
              refine ⟨_, _, rfl, rfl, _, rfl, ?_⟩
              rw [show decide (M < k) = true from decide_eq_true lt]
              exact iteT ⟨sz1, ga _ SF⟩
    · refine ⟨_, (@pss_cons _ _ _ _ _ (ps_expr (pe_meth (pv 0) T.cl_World T.mt_World_check_asker (ok_World_check_asker T) (hr.mono (by decide)) T.b_World_check_asker .nil pass2 (@pa_2 _ _ _ _ _ (pv 1) (pv 2) rfl rfl)))
      (@pss_cons _ _ _ _ _ (ps_if (pt_not (pt_val (pe_call (ok_is_between T) (hr.mono (by decide)) rfl T.m_is_between T.F_is_between.kp T.b_is_between .nil pass0 (@pa_3 _ _ _ _ _ _ _ (pv 3) pe_int (pe_glob (v := .int 1000) rfl T.c_MOST_MUCH.choose_spec ⟨_, rfl⟩) rfl rfl rfl)))) (@pss_one _ _ _ (ps_raise2 rfl T.m_BadNumber T.x_BadNumber (pa_more pe_str pa_nil))) pss_nil)
      (@pss_cons _ _ _ _ _ (ps_set (i := 4) sc_World_ask.nd rfl (Or.inr rfl) (pe_ix ix_list (pe_fld (pv 0) rfl) (pv 1) (fun _ _ => rfl)))
      (@pss_cons _ _ _ _ _ (ps_if (PW.pt (pw_or (pt_cmpR op_gt (pe_callB call_len_seq rfl T.n_len boot_len (pa_more (pv 4) pa_nil)) (pe_glob (v := .int 99) rfl T.c_LAST_NUMBER.choose_spec ⟨_, rfl⟩) (nomark _)) (pw_or1 (PW.pt (pw_and (pt_truth (pv 4) (fun _ => rfl)) (pw_and1 (pt_not (pt_val (pe_meth (pe_fld (pv 0) rfl) T.cl_Board T.mt_Board_is_carried (ok_Board_is_carried T) (hr.mono (by decide)) T.b_Board_is_carried .nil pass0 (pa_more (pe_ix ix_list (pv 4) (pe_un un_neg pe_int) (fun _ _ => rfl)) pa_nil)))))))))) (@pss_one _ _ _ (ps_raise2 rfl T.m_NotNow T.x_NotNow (pa_more pe_str pa_nil))) pss_nil)
      (@pss_cons _ _ _ _ _ (ps_if (pt_cmpR op_gt (pv 3) (pe_callB (call_maxL rfl) rfl T.n_max boot_max (pa_more (pe_thaw (pe_lcomp (N' := ["keeper", "purse", "asked"]) (ix := [none, some 1, some 4]) (compOk_is (by kernel_rfl)) rfl (pi_vK (pe_bm0 PySem.F.plainAttrs_dict PySem.F.slot_dict_values PySem.F.type_dict_values mt_values (pe_fld (pv 0) rfl))) (fun _ _ _ _ => (pg_name (i := 0) nd_4 rfl (Or.inl rfl) (.inr rfl))) (fun _ _ _ _ => pif_nil) (fun _ _ _ _ => (pe_meth (pv 0) T.cl_Keeper T.mt_Keeper_left_of (ok_Keeper_left_of T) (hr.mono (by decide)) T.b_Keeper_left_of .nil pass0 (@pa_2 _ _ _ _ _ (pv 1) (pv 2) rfl rfl))))) pa_nil)) (nomark _)) (@pss_one _ _ _ (ps_raise2 rfl T.m_TooMuch T.x_TooMuch (pa_more pe_str pa_nil))) pss_nil)
      (@pss_cons _ _ _ _ _ (@ps_set _ _ 5 _ _ _ _ sc_World_ask.nd rfl (Or.inl rfl) (@pe_tup _ _ _ _ _ (@pa_4 _ _ _ _ _ _ _ _ _ (pv 1) (pe_callB call_len_seq rfl T.n_len boot_len (pa_more (pv 4) pa_nil)) (pv 2) (pv 3) rfl rfl rfl rfl)) (by rfl) (by first | exact .inl rfl | exact .inr rfl))
      (@pss_cons _ _ _ _ _ (ps_expr (pe_bm PySem.F.plainAttrs_list PySem.F.slot_list_append PySem.F.type_list_append mt_append (pv 4) (pa_more (pv 5) pa_nil)))
      (@pss_cons _ _ _ _ _ (ps_expr (pe_meth (pv 0) T.cl_World T.mt_World_write_to_all (ok_World_write_to_all T) (hr.mono (by decide)) T.b_World_write_to_all .nil pass0 (@pa_2 _ _ _ _ _ (pe_glob (v := .str "order") rfl T.c_ORDER_LETTER.choose_spec ⟨_, rfl⟩) (pv 5) rfl rfl)))
      (@pss_one _ _ _ (ps_ret (pv 5))))))))))), ?_⟩
      have OC := O.c
      have kd := O.kd
      have kp : ∀ kv ∈ W.kvs, ∃ k, kv.2 = .ref k ∧ KeepAt t H k W.ns := fun kv hkv => let ⟨k, e, q⟩ := O.kp kv hkv; ⟨k, e, q.at_⟩
      refine ⟨_, rfl, W.x, W.dx, _, rfl, OC.ob, hno W (by decide +kernel), _, rfl, _, rfl, W, _, _, _, _, rfl, OC, rfl, rfl, .inr (.inr ⟨isB_of i0 i1, isB_of j0 j1, .inr ⟨ic, fun e => ji (V.int.inj e), ?_⟩⟩)⟩
      refine ⟨_, rfl, .int k, 1, 1000, rfl, .inl rfl, _, rfl, ?_⟩
      rw [isB_of k0 k1]
      refine iteF ?_
      refine ⟨_, rfl, W.x, _, W.dx, _, _, rfl, OC.ob, T.cl_World, T.na_World_asked, wof_asked _ _ _ _ _ _ _ _, _, rfl, W.ak, _, i, .ref r, rfl, rfl, SqL.of OC.ak, atI_of i0 (by rw [List.getElem?_map, er]; rfl), ?_⟩
      have hr0 := OC.ro _ _ er
      refine ⟨_, rfl, r, _, rfl, .inl (SqL.of hr0), _, _, rfl, rfl, _, rfl, ite2 (fun z => absurd (of_decide_eq_true z) (by show ¬ (99 : Int) < 0; decide)) (fun _ => ?_)⟩
      refine ⟨_, rfl, false, .inl ⟨_, SqL.of hr0, rfl⟩, iteF ?_⟩
      refine ⟨_, rfl, _, rfl, W.x, _, W.dx, _, _, rfl, OC.ob, T.cl_World, T.na_World_keepers, wof_keepers _ _ _ _ _ _ _ _, .inr (.inr (.inl ⟨rfl, .inl ⟨_, kd⟩⟩)), W.kd, W.kvs, rfl, rfl, kd, fun vw hvw => ?_⟩
      have sv := same_upd (o := ViewV vw W.kd) hvw
      have kd1 := sv _ _ kd
      have kp1 : ∀ kv ∈ W.kvs, ∃ k, kv.2 = .ref k ∧ KeepAt t _ k W.ns := fun kv hkv => let ⟨k, e, q⟩ := kp kv hkv; ⟨k, e, q.same sv⟩
      have hr1 := sv _ _ hr0
      have gv : upd H vw (ViewV vw W.kd) vw = some (ViewV vw W.kd) := upd_same
      generalize upd H vw (ViewV vw W.kd) = H1 at sv kd1 kp1 gv hr1
      have keep : ∀ {o : Obj} {b : Addr} {u : HO}, H1 b = some u → (∀ ks, u ≠ .dK ks) → upd H1 W.kd (.frz o (.dK W.kvs)) b = some u := fun {o b u} e hu => by
        rw [upd_ne (ne_of e kd1 (hu _))]
        exact e
      refine ⟨vw, W.kd, W.kvs, rfl, gv, kd1, fun oo => lc_vK (fun i' ys σ H' => ∃ v0, σ = [v0, some (.int i), some (.ref r)] ∧ Same (upd H1 W.kd (.frz oo (.dK W.kvs))) H' ∧ ys = (List.replicate i' zz).map V.int) ⟨none, rfl, Same.refl _, rfl⟩ ?_ ?_ ?_⟩
      · rintro i' ys σ H' hi ⟨v0, rfl, sm, rfl⟩
        refine ⟨sm _ _ upd_same, len1000 ?_⟩
        rw [List.length_map, List.length_replicate]
        omega
      · rintro i' kv ys σ H' ek ⟨v0, rfl, sm, rfl⟩
        obtain ⟨kk, ek2, dk, he, nn, dn, hd, un, cs, wt, q1, q2⟩ := kp1 kv (List.mem_of_getElem? ek)
        rw [ek2]
        have q1' := sm _ _ (keep q1 fun _ z => by cases z)
        have q2' := sm _ _ (keep q2 fun _ z => by cases z)
        have hr2 := sm _ _ (keep hr1 fun _ z => by cases z)
        dsimp only [gName, tYes]
        rw [if_pos rfl]
        refine ⟨_, rfl, kk, dk, _, rfl, q1', kf_no _ _ _ _ _ _ _ (by decide +kernel), _, rfl, _, rfl, kk, W.ns, r, i, zz, rfl, ⟨dk, he, nn, dn, hd, un, cs, wt, q1', q2'⟩, hr2, i0, ez, fun H'' s'' => ⟨_, rfl, sm.trans s'', ?_⟩⟩
        rw [List.replicate_succ', List.map_append]
        rfl
      · rintro ys σ H' ⟨v0, rfl, sm, rfl⟩ L nL
        have hD' := sm _ _ (upd_same (H := H1) (a := W.kd) (o := .frz oo (.dK W.kvs)))
        have LD : L ≠ W.kd := (ne_of_none hD' nL).symm
        have SF : Same H (upd (upd H' L (.lst ((List.replicate W.kvs.length zz).map V.int))) W.kd (.dK W.kvs)) := fun c u hc => by
          have h1 := sv _ _ hc
          by_cases z : c = W.kd
          · subst z
            rw [kd1] at h1
            rw [upd_same, h1]
          · have hc' : H' c = some u := sm _ _ (by rw [upd_ne z]; exact h1)
            rw [upd_ne z, upd_ne (ne_of_none hc' nL)]
            exact hc'
        refine ⟨W.kd, oo, .dK W.kvs, (by rw [upd_ne LD.symm]; exact hD'), fun o' u' z => ?_, True.intro, L, List.replicate W.kvs.length zz, rfl, SqL.of (by rw [upd_ne LD]; exact upd_same), (by rw [List.length_replicate]; exact l0), fun M hM _ => ?_⟩
        · have z' : H W.kd = some (.frz o' u') := z
          rw [kd] at z'
          cases z'
        · have eM : M = zz := List.eq_of_mem_replicate hM
          subst eM
          refine ⟨_, _, rfl, rfl, _, rfl, ?_⟩
          rw [show decide (M < k) = false from decide_eq_false (by omega)]
          refine iteF ?_
          have OG := O.same SF
          generalize upd (upd H' L (.lst ((List.replicate W.kvs.length M).map V.int))) W.kd (.dK W.kvs) = G at SF OG
          have hrG := OG.c.ro _ _ er
          refine ⟨_, rfl, _, rfl, r, _, rfl, .inl (SqL.of hrG), _, rfl, _, rfl, zs4, fun p np => ?_⟩
          have s1 := same_upd (o := .tup (ordV ⟨i, 0, j, k⟩)) np
          have O1 := OG.same s1
          have hr1 := O1.c.ro _ _ er
          have hp1 : upd G p (.tup (ordV ⟨i, 0, j, k⟩)) p = some (.tup (ordV ⟨i, 0, j, k⟩)) := upd_same
          refine ⟨_, rfl, .inl ⟨rfl, _, SqL.of hr1⟩, _, rfl, r, [], .ref p, rfl, rfl, hr1, (by show 0 < sizeLine; decide), ?_⟩
          have hrw : r ≠ W.wy := (ap.2.2.1 r (List.mem_of_getElem? er)).2.2
          have hrc : r ≠ W.ch := (ap.2.2.1 r (List.mem_of_getElem? er)).1
          have hra : r ≠ W.ak := (ap.2.2.1 r (List.mem_of_getElem? er)).2.1
          have f2 : Frm (upd G p (.tup (ordV ⟨i, 0, j, k⟩))) r (upd (upd G p (.tup (ordV ⟨i, 0, j, k⟩))) r (.lst [.ref p])) := Frm.obj Frm.refl'
          have hr2 : upd (upd G p (.tup (ordV ⟨i, 0, j, k⟩))) r (.lst [.ref p]) r = some (.lst [.ref p]) := upd_same
          show tSeq _ _ _ _ (upd (upd G p (.tup (ordV ⟨i, 0, j, k⟩))) r (.lst [.ref p]))
          generalize upd G p (.tup (ordV ⟨i, 0, j, k⟩)) = G1 at s1 O1 hr1 hp1 f2 hr2
          generalize upd G1 r (.lst [.ref p]) = G2 at f2 hr2
          have ob2 := f2 _ _ O1.c.ob (ne_of O1.c.ob hr1 (by intro z; cases z))
          have kd2 := f2 _ _ O1.kd (ne_of O1.kd hr1 (by intro z; cases z))
          have wy2 := f2 _ _ O1.c.wy hrw.symm
          refine ⟨_, rfl, W.x, W.dx, _, rfl, ob2, hno W (by decide +kernel), _, rfl, W, .str "order", .ref p, [], rfl, ob2, kd2, wy2, (by show 0 + W.kvs.length ≤ 1000; omega), fun ts J lts hw fr => ⟨_, rfl, ?_⟩⟩
          refine q _ _ p ⟨i, 0, j, k⟩ ts (fun i' => if i' = i.toNat then [.ref p] else []) ⟨?_, ?_, ?_, fun i' r' e' => ?_, ⟨?_, ?_, .nil, O.c.bd.un⟩, hw, O.c.cf, O.c.nw⟩ lts (if_pos rfl) ?_
          · exact fr _ _ ob2 (ne_of ob2 wy2 (by intro z; cases z))
          · exact fr _ _ (f2 _ _ O1.c.ch hrc.symm) ap.1.symm
          · exact fr _ _ (f2 _ _ O1.c.ak hra.symm) ap.2.1.symm
          · have hw' : r' ≠ W.wy := (ap.2.2.1 r' (List.mem_of_getElem? e')).2.2
            by_cases z : i' = i.toNat
            · subst z
              rw [er] at e'
              cases e'
              show J r = some (.lst (if i.toNat = i.toNat then [.ref p] else []))
              rw [if_pos rfl]
              exact fr _ _ hr2 hrw
            · show J r' = some (.lst (if i' = i.toNat then [.ref p] else []))
              rw [if_neg z]
              refine fr _ _ (f2 _ _ (O1.c.ro _ _ e') fun y => z ?_) hw'
              subst y
              exact (List.getElem?_inj (List.getElem?_eq_some_iff.mp e').1 ap.2.2.2).mp (e'.trans er.symm)
          · exact fr _ _ (f2 _ _ O1.c.bd.ob (ne_of O1.c.bd.ob hr1 (by intro z; cases z))) (ne_of O1.c.bd.ob O1.c.wy (by intro z; cases z))
          · exact fr _ _ (f2 _ _ O1.c.bd.sg (ne_of O1.c.bd.sg hr1 (by intro z; cases z))) (ne_of O1.c.bd.sg O1.c.wy (by intro z; cases z))
          · exact fr _ _ (f2 _ _ hp1 (ne_of hp1 hr1 (by intro z; cases z))) (ne_of hp1 O1.c.wy (by intro z; cases z))
theorem ok__law_town (T : Txt K mg t) : FnOk P w K mg base CX0 1 t.f__law_town t.d__law_town ["_law_script"] (sp_town K) := by
  refine T.F__law_town.ok sc__law_town (fun vs H Q E h => ?_) (fun cdv A outer s H vs Q E hr h => ?_)
  · obtain ⟨a, ns, rfl, _⟩ := h
    rfl
  · obtain ⟨a, ns, rfl, ha, k⟩ := h
    refine ⟨_, (@pss_one _ _ _ (ps_ret (@pe_lst _ _ _ _ (@pa_2 _ _ _ _ _ (pe_ifExp (pt_cmpR (op_neD hr.units) (pv 0) (@pe_lst _ _ _ _ pa_nil) (nomark _)) (pe_callTy call_list_of rfl T.n_list boot_list (pa_more (pv 0) pa_nil)) (@pe_lst _ _ _ _ (pa_more pe_int pa_nil))) pe_int rfl rfl)))), ?_⟩
    refine ⟨_, rfl, zs0, fun p hp => ?_⟩
    have s1 := same_upd (o := .lst []) hp
    refine ⟨.lst (ns.map Dt.int), .lst (([] : List Int).map Dt.int), hasD_listI (s1.seq ha), hasD_listI (SqL.of upd_same), dep_listI _, _, rfl, ?_⟩
    rw [eqD_listI]
    refine ite2 (fun h1 => ?_) (fun h1 => ?_)
    · have ne := nd h1
      refine ⟨_, rfl, a, _, rfl, .inl (s1.seq ha), fun R hR => ?_⟩
      refine ⟨zs2, fun T' hT => ?_⟩
      have s2 := s1.trans (same_upd (o := .lst (ns.map V.int)) hR)
      have nRT : R ≠ T' := ne_of_none upd_same hT
      refine k T' R _ (s2.free hT) (s1.free hR) (s2.trans (same_upd hT)) ⟨ns, 0, upd_same, by rw [upd_ne nRT, upd_same], ?_⟩
      cases ns with
      | nil => exact absurd rfl ne
      | cons x r => exact Nat.succ_pos _
    · refine ⟨zs1, fun R hR => ?_⟩
      refine ⟨zs2, fun T' hT => ?_⟩
      have s2 := s1.trans (same_upd (o := .lst [.int 0]) hR)
      have nRT : R ≠ T' := ne_of_none upd_same hT
      exact k T' R _ (s2.free hT) (s1.free hR) (s2.trans (same_upd hT)) ⟨[0], 0, upd_same, by rw [upd_ne nRT, upd_same]; rfl, Nat.one_pos⟩
theorem ok__law_draw (T : Txt K mg t) : FnOk P w K mg base CX0 1 t.f__law_draw t.d__law_draw ["_law_town_here", "_law_many"] sp_draw := by
  refine T.F__law_draw.ok sc__law_draw (fun vs H Q E h => ?_) (fun cdv A outer s H vs Q E hr h => ?_)
  · obtain ⟨a, R, m, rfl, _⟩ := h
    rfl
  · obtain ⟨To, R, m, rfl, hT, m1, m2, k⟩ := h
    have nTR := hT.ne
    obtain ⟨row, c, h1, h2, h3⟩ := hT
    refine ⟨_, (@pss_cons _ _ _ _ _ (ps_set (i := 2) sc__law_draw.nd rfl (Or.inl rfl) (pe_ix ix_list (pv 0) pe_int (fun _ _ => rfl)))
      (@pss_cons _ _ _ _ _ (ps_asg (pe_op op_add (pe_ix ix_list (pv 0) pe_int (fun _ _ => rfl)) pe_int) (pg_sub (pv 0) pe_int set_list))
      (@pss_cons _ _ _ _ _ (ps_set (i := 3) sc__law_draw.nd rfl (Or.inl rfl) (pe_op op_mod (pe_ix ix_list (pv 0) pe_int (fun _ _ => rfl)) (pe_callB call_len_seq rfl T.n_len boot_len (pa_more (pv 2) pa_nil))))
      (@pss_cons _ _ _ _ _ (ps_set (i := 4) sc__law_draw.nd rfl (Or.inl rfl) (pe_ix ix_list (pv 2) (pv 3) (fun _ _ => rfl)))
      (@pss_cons _ _ _ _ _ (ps_if (pt_cmpR op_ge (pv 4) pe_int (nomark _)) (@pss_cons _ _ _ _ _ (ps_asg (pe_op op_fdiv (pv 4) (pv 1)) (pg_sub (pv 2) (pv 3) set_list))
      (@pss_one _ _ _ (ps_ret (pe_op op_mod (pv 4) (pv 1))))) pss_nil)
      (@pss_cons _ _ _ _ _ (ps_set (i := 5) sc__law_draw.nd rfl (Or.inl rfl) (pe_op op_mod (pe_op op_add (pv 4) (pe_op op_mul pe_int (pe_ix ix_list (pv 0) pe_int (fun _ _ => rfl)))) pe_int))
      (@pss_cons _ _ _ _ _ (ps_set (i := 5) sc__law_draw.nd rfl (Or.inl rfl) (pe_op op_mod (pe_op op_pow (pv 5) pe_int) pe_int))
      (@pss_one _ _ _ (ps_ret (pe_op op_mod (pe_op op_fdiv (pe_op op_mod (pe_op op_add (pe_op op_mul (pe_op op_fdiv (pv 5) pe_int) pe_int) (pv 5)) pe_int) pe_int) (pv 1))))))))))), ?_⟩
    refine ⟨_, rfl, To, _, 0, .ref R, rfl, rfl, SqL.of h1, rfl, ?_⟩
    refine ⟨_, rfl, To, _, 1, .int c, rfl, rfl, SqL.of h1, rfl, _, _, rfl, rfl, ?_⟩
    refine ⟨_, rfl, To, _, 1, 1, rfl, rfl, h1, rfl, ?_⟩
    have g1 : (upd H To (.lst ([V.ref R, V.int c].set 1 (V.int (c + 1))))) To = some (.lst [.ref R, .int (c + 1)]) := upd_same
    have g2 : (upd H To (.lst ([V.ref R, V.int c].set 1 (V.int (c + 1))))) R = some (.lst (row.map V.int)) := by rw [upd_ne nTR.symm]; exact h2
    have kp : KeepT To R H (upd H To (.lst ([V.ref R, V.int c].set 1 (V.int (c + 1))))) := fun b o e n1 _ => by rw [upd_ne n1]; exact e
    generalize upd H To (.lst ([V.ref R, V.int c].set 1 (V.int (c + 1)))) = H1 at g1 g2 kp
    have hl : (0 : Int) < ((row.map V.int).length : Int) := by rw [List.length_map]; omega
    refine ⟨_, rfl, To, _, 1, .int (c + 1), rfl, rfl, SqL.of g1, rfl, _, rfl, R, _, rfl, .inl (SqL.of g2), _, _, rfl, rfl, hl, ?_⟩
    rw [List.length_map] at hl ⊢
    have b0 : 0 ≤ (c + 1) % (row.length : Int) := Int.emod_nonneg _ (by omega)
    have b1 : (c + 1) % (row.length : Int) < (row.length : Int) := Int.emod_lt_of_pos _ hl
    have b2 : ((c + 1) % (row.length : Int)).toNat < row.length := by omega
    refine ⟨_, rfl, _, rfl, R, _, ((c + 1) % (row.length : Int)), _, rfl, rfl, SqL.of g2, atI_of b0 (get_map b2), ?_⟩
    refine ⟨_, rfl, _, _, rfl, rfl, _, rfl, ?_⟩
    refine ite2 (fun h5 => ?_) (fun h5 => ?_)
    · refine ⟨_, rfl, _, rfl, _, _, rfl, rfl, ⟨by omega, m2⟩, ?_⟩
      refine ⟨_, rfl, _, rfl, R, _, ((c + 1) % (row.length : Int)), _, rfl, rfl, g2, ixN_of b0 (by rw [List.length_map]; exact b2), ?_⟩
      rw [set_map]
      refine ⟨_, rfl, _, rfl, _, _, rfl, rfl, (by show (0 : Int) < m; omega), ?_⟩
      refine k _ _ (Int.emod_nonneg _ (by omega)) (Int.emod_lt_of_pos _ (by omega)) ⟨_, c + 1, by rw [upd_ne nTR]; exact g1, upd_same, by rw [List.length_set]; exact h3⟩ fun b o e n1 n2 => ?_
      rw [upd_ne n2]
      exact kp b o e n1 n2
    · have big : ∀ z : Int, (z % 4294967291).natAbs < 2 ^ 64 := fun z => by
        have u1 := Int.emod_nonneg z (show (4294967291 : Int) ≠ 0 by decide)
        have u2 := Int.emod_lt_of_pos z (show (0 : Int) < 4294967291 by decide)
        omega
      refine ⟨_, rfl, _, rfl, To, _, 1, .int (c + 1), rfl, rfl, SqL.of g1, rfl, _, _, rfl, rfl, .inl ⟨by decide, by decide⟩, _, _, rfl, rfl, _, _, rfl, rfl, (by show (0 : Int) < 4294967291; decide), ?_⟩
      refine ⟨_, rfl, _, _, rfl, rfl, ⟨by decide, by decide, big _⟩, _, _, rfl, rfl, (by show (0 : Int) < 4294967279; decide), ?_⟩
      refine ⟨_, rfl, _, _, rfl, rfl, ⟨by decide, by decide⟩, _, _, rfl, rfl, .inr ⟨by decide, by decide⟩, _, rfl, _, _, rfl, rfl, _, _, rfl, rfl, (by show (0 : Int) < 4294967231; decide), _, _, rfl, rfl, ⟨by decide, by decide⟩, _, rfl, _, _, rfl, rfl, (by show (0 : Int) < m; omega), ?_⟩
      exact k _ _ (Int.emod_nonneg _ (by omega)) (Int.emod_lt_of_pos _ (by omega)) ⟨row, c + 1, g1, g2, h3⟩ kp
theorem ok__law_pick (T : Txt K mg t) : FnOk P w K mg base CX0 2 t.f__law_pick t.d__law_pick ["_law_town_here", "_law_some"] sp_pick := by
  refine T.F__law_pick.ok sc__law_pick (fun vs H Q E h => ?_) (fun cdv A outer s H vs Q E hr h => ?_)
  · obtain ⟨a, R, S, xs, rfl, _⟩ := h
    rfl
  · obtain ⟨To, R, S, xs, rfl, hT, hS, n1, n2, l0, l1, k⟩ := h
    refine ⟨_, (@pss_one _ _ _ (ps_ret (pe_ix ix_list (pv 1) (pe_call (ok__law_draw T) (hr.mono (by decide)) rfl T.m__law_draw T.F__law_draw.kp T.b__law_draw .nil pass0 (@pa_2 _ _ _ _ _ (pv 0) (pe_callB call_len_seq rfl T.n_len boot_len (pa_more (pv 1) pa_nil)) rfl rfl)) (fun _ _ => rfl)))), ?_⟩
    refine ⟨_, rfl, _, rfl, _, rfl, S, xs, rfl, .inl (SqL.of hS), To, R, _, rfl, hT, by omega, by omega, fun d H' d0 d1 hT' kp => ?_⟩
    have hd : d.toNat < xs.length := by omega
    exact ⟨S, xs, d, xs[d.toNat], rfl, rfl, SqL.of (kp _ _ hS n1 n2), atI_of d0 (by simp [hd]), k d.toNat _ H' (by simp [hd]) hT' kp⟩
theorem kinds13 {C a0 a1 a2 a3 a4 a5 a6 a7 a8 a9 a10 a11 a12 : Value} {b0 b1 b2 b3 b4 b5 b6 b7 b8 b9 b10 b11 b12 : Bool} (h : kinds K C [a0, a1, a2, a3, a4, a5, a6, a7, a8, a9, a10, a11, a12] = [some b0, some b1, some b2, some b3, some b4, some b5, some b6, some b7, some b8, some b9, some b10, some b11, some b12]) :
    W.kitOne K C a0 = some b0 ∧ W.kitOne K C a1 = some b1 ∧ W.kitOne K C a2 = some b2 ∧ W.kitOne K C a3 = some b3 ∧ W.kitOne K C a4 = some b4 ∧ W.kitOne K C a5 = some b5 ∧ W.kitOne K C a6 = some b6 ∧ W.kitOne K C a7 = some b7 ∧
    W.kitOne K C a8 = some b8 ∧ W.kitOne K C a9 = some b9 ∧ W.kitOne K C a10 = some b10 ∧ W.kitOne K C a11 = some b11 ∧ W.kitOne K C a12 = some b12 := by
  unfold kinds at h
  simpa only [List.map_cons, List.map_nil, List.cons.injEq, and_true] using h
def words : List V := [.str "number", .str "order", .str "houses", .str "house", .str "purse", .str "letter", .str "now", .str "much", .str "paper", .str "cut", .str "text"]
def sp_refusal (K : W.Frag) (t : Ad) : Sp := fun vs H Q _ => ∃ (ea C : Addr) (b0 b1 b2 b3 b4 b5 b6 b7 b8 b9 b10 : Bool) (x : V), vs = [.ref ea] ∧ H ea = some (IsExc ea (.ref C)) ∧ XIs K C ∧
  kinds K (.ref C) (asked t) = [some b0, some b1, some b2, some b3, some b4, some b5, some b6, some b7, some b8, some b9, some b10, some true, some true] ∧ [b0, b1, b2, b3, b4, b5, b6, b7, b8, b9, b10].count true = 1 ∧
  words[[b0, b1, b2, b3, b4, b5, b6, b7, b8, b9, b10].idxOf true]? = some x ∧ ∀ H', Same H H' → Q x H'
set_option maxHeartbeats 0 in
theorem ok__law_refusal (T : Txt K mg t) : FnOk P w K mg base CX0 1 t.f__law_refusal t.d__law_refusal ["_law_caught"] (sp_refusal K t) := by
  refine T.F__law_refusal.ok sc__law_refusal (fun vs H Q E h => ?_) (fun cdv A outer s H vs Q E hr h => ?_)
  · obtain ⟨ea, C, b0, b1, b2, b3, b4, b5, b6, b7, b8, b9, b10, x, rfl, _⟩ := h
    rfl
  · obtain ⟨ea, C, b0, b1, b2, b3, b4, b5, b6, b7, b8, b9, b10, x, rfl, he, hX, hk, hc, hw, k⟩ := h
    obtain ⟨k0, k1, k2, k3, k4, k5, k6, k7, k8, k9, k10, k11, k12⟩ := kinds13 hk
    refine ⟨_, (@pss_cons _ _ _ _ _ (@ps_set _ _ 1 _ _ _ _ sc__law_refusal.nd rfl (Or.inl rfl) (@pe_lst _ _ _ _ (@pa_3 _ _ _ _ _ _ _ (pe_callB call_isexc rfl T.n_isinstance boot_isinstance (@pa_2 _ _ _ _ _ (pv 0) (pe_glob (v := .ref t.a_BadNumber) rfl T.m_BadNumber rfl) rfl rfl)) (pe_callB call_isexc rfl T.n_isinstance boot_isinstance (@pa_2 _ _ _ _ _ (pv 0) (pe_glob (v := .ref t.a_BadOrder) rfl T.m_BadOrder rfl) rfl rfl)) (pe_callB call_isexc rfl T.n_isinstance boot_isinstance (@pa_2 _ _ _ _ _ (pv 0) (pe_glob (v := .ref t.a_BadHouses) rfl T.m_BadHouses rfl) rfl rfl)) rfl rfl rfl)) (by rfl) (by first | exact .inl rfl | exact .inr rfl))
      (@pss_cons _ _ _ _ _ (ps_set (i := 1) sc__law_refusal.nd rfl (Or.inl rfl) (pe_op op_cat (pv 1) (@pe_lst _ _ _ _ (@pa_3 _ _ _ _ _ _ _ (pe_callB call_isexc rfl T.n_isinstance boot_isinstance (@pa_2 _ _ _ _ _ (pv 0) (pe_glob (v := .ref t.a_NoHouse) rfl T.m_NoHouse rfl) rfl rfl)) (pe_callB call_isexc rfl T.n_isinstance boot_isinstance (@pa_2 _ _ _ _ _ (pv 0) (pe_glob (v := .ref t.a_NoPurse) rfl T.m_NoPurse rfl) rfl rfl)) (pe_callB call_isexc rfl T.n_isinstance boot_isinstance (@pa_2 _ _ _ _ _ (pv 0) (pe_glob (v := .ref t.a_NoLetter) rfl T.m_NoLetter rfl) rfl rfl)) rfl rfl rfl))))
      (@pss_cons _ _ _ _ _ (ps_set (i := 1) sc__law_refusal.nd rfl (Or.inl rfl) (pe_op op_cat (pv 1) (@pe_lst _ _ _ _ (@pa_3 _ _ _ _ _ _ _ (pe_callB call_isexc rfl T.n_isinstance boot_isinstance (@pa_2 _ _ _ _ _ (pv 0) (pe_glob (v := .ref t.a_NotNow) rfl T.m_NotNow rfl) rfl rfl)) (pe_callB call_isexc rfl T.n_isinstance boot_isinstance (@pa_2 _ _ _ _ _ (pv 0) (pe_glob (v := .ref t.a_TooMuch) rfl T.m_TooMuch rfl) rfl rfl)) (pe_callB call_isexc rfl T.n_isinstance boot_isinstance (@pa_2 _ _ _ _ _ (pv 0) (pe_glob (v := .ref t.a_BadPaper) rfl T.m_BadPaper rfl) rfl rfl)) rfl rfl rfl))))
      (@pss_cons _ _ _ _ _ (ps_set (i := 1) sc__law_refusal.nd rfl (Or.inl rfl) (pe_op op_cat (pv 1) (@pe_lst _ _ _ _ (@pa_2 _ _ _ _ _ (pe_callB call_isexc rfl T.n_isinstance boot_isinstance (@pa_2 _ _ _ _ _ (pv 0) (pe_glob (v := .ref t.a_BadCut) rfl T.m_BadCut rfl) rfl rfl)) (pe_callB call_isexc rfl T.n_isinstance boot_isinstance (@pa_2 _ _ _ _ _ (pv 0) (pe_glob (v := .ref t.a_BadText) rfl T.m_BadText rfl) rfl rfl)) rfl rfl))))
      (@pss_cons _ _ _ _ _ (ps_if (PW.pt (pw_or (pt_cmpR op_ne (pe_bm PySem.F.plainAttrs_list PySem.F.slot_list_count PySem.F.type_list_count mt_countB (pv 1) (pa_more pe_bl pa_nil)) pe_int (nomark _)) (pw_or (pt_not (pt_val (pe_callB call_isexc rfl T.n_isinstance boot_isinstance (@pa_2 _ _ _ _ _ (pv 0) (pe_glob (v := .ref t.a_PurseError) rfl T.m_PurseError rfl) rfl rfl)))) (pw_or1 (pt_not (pt_val (pe_callB call_isexc rfl T.n_isinstance boot_isinstance (@pa_2 _ _ _ _ _ (pv 0) (pe_bltn (v := .ty "ValueError") rfl T.n_ValueError boot_ValueError rfl) rfl rfl)))))))) (@pss_one _ _ _ (ps_ret pe_str)) pss_nil)
      (@pss_cons _ _ _ _ _ (@ps_set _ _ 2 _ _ _ _ sc__law_refusal.nd rfl (Or.inl rfl) (@pe_lst _ _ _ _ (@pa_lits _ _ [.c (.str "number"), .c (.str "order"), .c (.str "houses"), .c (.str "house"), .c (.str "purse"), .c (.str "letter"), .c (.str "now"), .c (.str "much"), .c (.str "paper"), .c (.str "cut"), .c (.str "text")] rfl)) (by rfl) (by first | exact .inl rfl | exact .inr rfl))
      (@pss_one _ _ _ (ps_ret (pe_ix ix_list (pv 2) (pe_bm PySem.F.plainAttrs_list PySem.F.slot_list_index PySem.F.type_list_index mt_indexB (pv 1) (pa_more pe_bl pa_nil)) (fun _ _ => rfl)))))))))), ?_⟩
    refine ⟨_, rfl, ea, C, _, _, b0, rfl, he, hX, rfl, k0, _, rfl, ea, C, _, _, b1, rfl, he, hX, rfl, k1, _, rfl, ea, C, _, _, b2, rfl, he, hX, rfl, k2, zs3, fun p1 h1 => ?_⟩
    have s1 := same_upd (o := .lst [.bl b0, .bl b1, .bl b2]) h1
    have he1 := s1 _ _ he
    refine ⟨_, rfl, _, rfl, ea, C, _, _, b3, rfl, he1, hX, rfl, k3, _, rfl, ea, C, _, _, b4, rfl, he1, hX, rfl, k4, _, rfl, ea, C, _, _, b5, rfl, he1, hX, rfl, k5, zs3, fun p2 h2 => ?_⟩
    refine ⟨p1, p2, [.bl b0, .bl b1, .bl b2], [.bl b3, .bl b4, .bl b5], rfl, rfl, (by rw [upd_ne (ne_of_none upd_same h2)]; exact upd_same), upd_same, zs6, fun p3 h3 => ?_⟩
    have s3 := (s1.trans (same_upd (o := .lst [.bl b3, .bl b4, .bl b5]) h2)).trans (same_upd (o := .lst ([.bl b0, .bl b1, .bl b2] ++ [.bl b3, .bl b4, .bl b5])) h3)
    have g3 : (upd (upd (upd H p1 (.lst [.bl b0, .bl b1, .bl b2])) p2 (.lst [.bl b3, .bl b4, .bl b5])) p3 (.lst ([.bl b0, .bl b1, .bl b2] ++ [.bl b3, .bl b4, .bl b5]))) p3 = some (.lst [.bl b0, .bl b1, .bl b2, .bl b3, .bl b4, .bl b5]) := upd_same
    generalize upd (upd (upd H p1 (.lst [.bl b0, .bl b1, .bl b2])) p2 (.lst [.bl b3, .bl b4, .bl b5])) p3 (.lst ([.bl b0, .bl b1, .bl b2] ++ [.bl b3, .bl b4, .bl b5])) = H3 at s3 g3
    have he3 := s3 _ _ he
    refine ⟨_, rfl, _, rfl, ea, C, _, _, b6, rfl, he3, hX, rfl, k6, _, rfl, ea, C, _, _, b7, rfl, he3, hX, rfl, k7, _, rfl, ea, C, _, _, b8, rfl, he3, hX, rfl, k8, zs3, fun p4 h4 => ?_⟩
    refine ⟨p3, p4, [.bl b0, .bl b1, .bl b2, .bl b3, .bl b4, .bl b5], [.bl b6, .bl b7, .bl b8], rfl, rfl, (by rw [upd_ne (ne_of_none g3 h4)]; exact g3), upd_same, zs9, fun p5 h5 => ?_⟩
    have s5 := (s3.trans (same_upd (o := .lst [.bl b6, .bl b7, .bl b8]) h4)).trans (same_upd (o := .lst ([.bl b0, .bl b1, .bl b2, .bl b3, .bl b4, .bl b5] ++ [.bl b6, .bl b7, .bl b8])) h5)
    have g5 : (upd (upd H3 p4 (.lst [.bl b6, .bl b7, .bl b8])) p5 (.lst ([.bl b0, .bl b1, .bl b2, .bl b3, .bl b4, .bl b5] ++ [.bl b6, .bl b7, .bl b8]))) p5 = some (.lst [.bl b0, .bl b1, .bl b2, .bl b3, .bl b4, .bl b5, .bl b6, .bl b7, .bl b8]) := upd_same
    generalize upd (upd H3 p4 (.lst [.bl b6, .bl b7, .bl b8])) p5 (.lst ([.bl b0, .bl b1, .bl b2, .bl b3, .bl b4, .bl b5] ++ [.bl b6, .bl b7, .bl b8])) = H5 at s5 g5
    have he5 := s5 _ _ he
    refine ⟨_, rfl, _, rfl, ea, C, _, _, b9, rfl, he5, hX, rfl, k9, _, rfl, ea, C, _, _, b10, rfl, he5, hX, rfl, k10, zs2, fun p6 h6 => ?_⟩
    refine ⟨p5, p6, [.bl b0, .bl b1, .bl b2, .bl b3, .bl b4, .bl b5, .bl b6, .bl b7, .bl b8], [.bl b9, .bl b10], rfl, rfl, (by rw [upd_ne (ne_of_none g5 h6)]; exact g5), upd_same, zs11, fun p7 h7 => ?_⟩
    have s7 := (s5.trans (same_upd (o := .lst [.bl b9, .bl b10]) h6)).trans (same_upd (o := .lst ([.bl b0, .bl b1, .bl b2, .bl b3, .bl b4, .bl b5, .bl b6, .bl b7, .bl b8] ++ [.bl b9, .bl b10])) h7)
    have g7 : (upd (upd H5 p6 (.lst [.bl b9, .bl b10])) p7 (.lst ([.bl b0, .bl b1, .bl b2, .bl b3, .bl b4, .bl b5, .bl b6, .bl b7, .bl b8] ++ [.bl b9, .bl b10]))) p7 = some (.lst ([b0, b1, b2, b3, b4, b5, b6, b7, b8, b9, b10].map V.bl)) := upd_same
    generalize upd (upd H5 p6 (.lst [.bl b9, .bl b10])) p7 (.lst ([.bl b0, .bl b1, .bl b2, .bl b3, .bl b4, .bl b5, .bl b6, .bl b7, .bl b8] ++ [.bl b9, .bl b10])) = H7 at s7 g7
    have he7 := s7 _ _ he
    have hmem : true ∈ [b0, b1, b2, b3, b4, b5, b6, b7, b8, b9, b10] := List.count_pos_iff.mp (by rw [hc]; decide)
    generalize [b0, b1, b2, b3, b4, b5, b6, b7, b8, b9, b10] = bs at hc hw g7 hmem
    refine ⟨_, rfl, .inl ⟨rfl, _, SqL.of g7⟩, p7, bs, true, rfl, rfl, SqL.of g7, rfl, _, rfl, ?_⟩
    refine ite2 (fun z => ?_) (fun _ => ?_)
    · exfalso
      rw [hc] at z
      exact absurd z (by decide)
    refine ⟨_, rfl, ea, C, _, _, true, rfl, he7, hX, rfl, k11, _, rfl, iteF ?_⟩
    refine ⟨_, rfl, ea, C, _, _, true, rfl, he7, hX, rfl, k12, _, rfl, iteF ?_⟩
    refine ⟨zs11, fun p8 h8 => ?_⟩
    have s8 := s7.trans (same_upd (o := .lst words) h8)
    have g8 := (same_upd (o := .lst words) h8) _ _ g7
    refine ⟨_, rfl, _, rfl, .inl ⟨rfl, _, SqL.of g8⟩, p7, bs, true, rfl, rfl, SqL.of g8, hmem, ?_⟩
    exact ⟨p8, words, _, x, rfl, rfl, SqL.of upd_same, atI_of (by omega) (by rw [Int.toNat_natCast]; exact hw), k _ s8⟩
theorem IsNum.same {H H' : Hp} {hs fw : V} (s : Same H H') (h : IsNum H hs fw) : IsNum H' hs fw := ⟨h.1.same s, h.2.1.same s, h.2.2⟩
theorem IsHou.same {H H' : Hp} {hs fw ss fo ro : V} (s : Same H H') (h : IsHou H hs fw ss fo ro) : IsHou H' hs fw ss fo ro := by
  obtain ⟨h, f, e1, e2, a1, a2, hc⟩ := h
  refine ⟨h, f, e1, e2, a1, a2, ?_⟩
  rcases hc with hc | ⟨lt, r, n, hR, hc⟩
  · exact .inl hc
  · refine .inr ⟨lt, r, n, hR.same s, ?_⟩
    rcases hc with hc | ⟨x1, x2, b, hb, hc⟩
    · exact .inl hc
    · refine .inr ⟨x1, x2, b, hb.same s, ?_⟩
      rcases hc with hc | ⟨y1, sa, xs, n', y2, y3, y4⟩
      · exact .inl hc
      · exact .inr ⟨y1, sa, xs, n', y2, s _ _ y3, y4.same s⟩
theorem IsTold.same {H H' : Hp} {hs fw ss fo ro : V} {h f : Int} {ns : List Int} {fs rs : List V} (s : Same H H') (q : IsTold H hs fw ss fo ro h f ns fs rs) : IsTold H' hs fw ss fo ro h f ns fs rs := by
  obtain ⟨e1, e2, a1, a2, lt, fa, sa, ra, e3, q1, q2, q3, q4, e4, q5, q6, e5, q7, q8⟩ := q
  exact ⟨e1, e2, a1, a2, lt, fa, sa, ra, e3, q1.same s, q2, q3, q4, e4, s _ _ q5, q6.same s, e5, q7.same s, q8⟩
def MadeIs (H : Hp) (hs fw ss fo ro : V) (wd : Str) : Prop := (IsNum H hs fw ∧ wd = "number") ∨ (IsHou H hs fw ss fo ro ∧ wd = "houses") ∨ (∃ h f ns fs rs, IsTold H hs fw ss fo ro h f ns fs rs ∧ wd = "told")
theorem ok__law_made (T : Txt K mg t) : FnOk P w K mg base CX0 9 t.f__law_made t.d__law_made ["_law_crew", "_law_some", "_law_begin", "_law_foes", "_law_rogues"] (fun vs H Q _ => ∃ hs fw ss fo ro wd, vs = [hs, fw, ss, fo, ro] ∧ MadeIs H hs fw ss fo ro wd ∧ ∀ H', Same H H' → Q (.str wd) H') := by
  refine T.F__law_made.ok sc__law_made (fun vs H Q E h => ?_) (fun cdv A outer s H vs Q E hr h => ?_)
  · obtain ⟨hs, fw, ss, fo, ro, wd, rfl, _⟩ := h
    rfl
  · obtain ⟨hs, fw, ss, fo, ro, wd, rfl, hc, k⟩ := h
    refine ⟨_, (@pss_cons _ _ _ _ _ (ps_set (i := 5) sc__law_made.nd rfl (Or.inl rfl) pe_non)
      (@pss_cons _ _ _ _ _ (ps_tryU (i := 6) rfl rfl rfl rfl T.m_PurseError T.be_PurseError sc__law_made.nd rfl rfl (fun _ _ => (@pss_one _ _ _ (ps_expr (pe_makeU T.mk_World (ok_World___init__ T) (hr.mono (by decide)) rfl T.m_World T.bk0_World___init__ (pa_more (pv 0) pa_nil) (pk_cons (pv 1) (pk_cons (pv 2) (pk_cons (pv 3) (pk_cons (pv 4) pk_nil)))))))) (fun _ => (@pss_one _ _ _ (ps_set (i := 5) sc__law_made.nd rfl (Or.inl rfl) (pv 6)))))
      (@pss_one _ _ _ (ps_ret (pe_ifExp (pt_cmpR op_isN (pv 5) pe_non (nomark _)) pe_str (pe_call (ok__law_refusal T) (hr.mono (by decide)) rfl T.m__law_refusal T.F__law_refusal.kp T.b__law_refusal .nil pass0 (pa_more (pv 5) pa_nil))))))), ?_⟩
    refine ⟨fun σ' cls dd H' => σ' = [some hs, some fw, some ss, some fo, some ro, some .non, none] ∧ Same H H' ∧ ((cls = .ref t.a_BadHouses ∧ wd = "houses") ∨ (cls = .ref t.a_BadNumber ∧ wd = "number")), ?_, ?_⟩
    · refine ⟨_, rfl, _, rfl, _, rfl, _, rfl, _, rfl, fun x dx nx ndx ne => ?_⟩
      have si : Same H (upd (upd H dx (.own x)) x (.ins t.a_World dx [])) := fun b u e => by
        rw [upd_ne (ne_of_none e nx), upd_ne (ne_of_none e ndx)]
        exact e
      refine ⟨x, dx, hs, fw, ss, fo, ro, rfl, upd_same, ?_⟩
      rcases hc with ⟨h1, rfl⟩ | ⟨h1, rfl⟩ | ⟨h, f, ns, fs, rs, h1, rfl⟩
      · exact .inl ⟨h1.same si, fun H' s' => ⟨rfl, si.trans s', .inr ⟨rfl, rfl⟩⟩⟩
      · exact .inr (.inl ⟨h1.same si, fun H' s' => ⟨rfl, si.trans s', .inl ⟨rfl, rfl⟩⟩⟩)
      · refine .inr (.inr ⟨h, f, ns, fs, rs, h1.same si, fun W H' fr _ _ _ _ _ _ _ _ _ _ _ => ⟨rfl, ?_⟩⟩)
        refine ⟨_, rfl, rfl, _, rfl, iteT (k _ fun b u e => fr _ _ (si _ _ e) (ne_of_none e nx))⟩
    · rintro σ' cls dd H' ea ⟨rfl, sm, hw⟩ hea
      have sx : ∀ {u : HO}, Same H (upd H' ea u) := fun {u} => sm.trans (same_upd hea)
      rcases hw with ⟨rfl, rfl⟩ | ⟨rfl, rfl⟩
      · refine ⟨t.a_BadHouses, rfl, T.xc_BadHouses_PurseError, ?_⟩
        refine ⟨_, rfl, upd_same, ?_⟩
        rw [upd_upd]
        refine ⟨_, rfl, rfl, _, rfl, iteF ?_⟩
        exact ⟨_, rfl, ea, t.a_BadHouses, false, false, true, false, false, false, false, false, false, false, false, .str "houses", rfl, upd_same, T.xi_BadHouses, T.xk_BadHouses, by decide, rfl, fun H'' s'' => k _ (sx.trans s'')⟩
      · refine ⟨t.a_BadNumber, rfl, T.xc_BadNumber_PurseError, ?_⟩
        refine ⟨_, rfl, upd_same, ?_⟩
        rw [upd_upd]
        refine ⟨_, rfl, rfl, _, rfl, iteF ?_⟩
        exact ⟨_, rfl, ea, t.a_BadNumber, true, false, false, false, false, false, false, false, false, false, false, .str "number", rfl, upd_same, T.xi_BadNumber, T.xk_BadNumber, by decide, rfl, fun H'' s'' => k _ (sx.trans s'')⟩
def RNext (t : Ad) (H : Hp) (vs : List V) (a : Ans) : Prop := ∃ W row way v, vs = [.ref W.x, v] ∧ WoC t H W row way ∧ simple v = true ∧ isB v 0 (W.n - 1) = false ∧ a = .pur v
def DidR (t : Ad) (H : Hp) (x : V) (k : Int) (o1 o2 o3 : V) (a : Ans) : Prop := (k = 0 ∧ RAsk t H [x, o1, o2, o3] a) ∨ (k = 1 ∧ RCheat t H [x, o1, o2] a) ∨ (k = 2 ∧ RLie t H [x, o1, o2] a) ∨ (k = 3 ∧ RShow t H [x, o1, o2] a) ∨ (k = 4 ∧ RCome t H [x, o1] a) ∨ (k = 5 ∧ RSums t H [x, o1] a) ∨
  (k = 6 ∧ RVoted t H [x, o1, o2, .int 0] a) ∨ (k = 7 ∧ RNext t H [x, o1] a) ∨ (k = 8 ∧ RPaper t H [x, o1] a)
def sp_did (t : Ad) : Sp := fun vs H Q E => ∃ x k o1 o2 o3, vs = [x, .int k, o1, o2, o3] ∧ ((∃ a, DidR t H x k o1 o2 o3 a ∧ Gone t E H a) ∨ (k = 0 ∧ ∃ W i r, TAsk t H [x, o1, o2, o3] W i r ∧ ∀ v H' q ou ts row, WoC t H' W row ts → ts.length = W.kvs.length → row i.toNat = [.ref q] → H' q = some (.tup (ordV ou)) → Q v H'))
theorem ok__law_did (T : Txt K mg t) : FnOk P w K mg base (CX2 P w) 7 t.f__law_did t.d__law_did ["_law_world", "_law_kind", "_law_one", "_law_two", "_law_three"] (sp_did t) := by
  refine T.F__law_did.okY sc__law_did (fun vs H Q E h => ?_) (fun cdv A outer s H vs Q E hr h => ?_)
  · obtain ⟨x, k, o1, o2, o3, rfl, _⟩ := h
    rfl
  · obtain ⟨x, k, o1, o2, o3, rfl, hc⟩ := h
    refine ⟨_, (@pss_cons _ _ _ _ _ (ps_if (pt_cmpR op_eq (pv 1) pe_int (nomark _)) (@pss_one _ _ _ (ps_ret (pe_meth (pv 0) T.cl_World T.mt_World_ask (ok_World_ask T) (hr.mono (by decide)) T.b_World_ask .nil pass2 (@pa_3 _ _ _ _ _ _ _ (pv 2) (pv 3) (pv 4) rfl rfl rfl)))) pss_nil)
      (@pss_cons _ _ _ _ _ (ps_if (pt_cmpR op_eq (pv 1) pe_int (nomark _)) (@pss_one _ _ _ (ps_ret (pe_meth (pv 0) T.cl_World T.mt_World_cheat (ok_World_cheat T) (hr.mono (by decide)) T.b_World_cheat .nil pass2 (@pa_2 _ _ _ _ _ (pv 2) (pv 3) rfl rfl)))) pss_nil)
      (@pss_cons _ _ _ _ _ (ps_if (pt_cmpR op_eq (pv 1) pe_int (nomark _)) (@pss_one _ _ _ (ps_ret (pe_meth (pv 0) T.cl_World T.mt_World_lie (ok_World_lie T) (hr.mono (by decide)) T.b_World_lie .nil pass2 (@pa_2 _ _ _ _ _ (pv 2) (pv 3) rfl rfl)))) pss_nil)
      (@pss_cons _ _ _ _ _ (ps_if (pt_cmpR op_eq (pv 1) pe_int (nomark _)) (@pss_one _ _ _ (ps_ret (pe_meth (pv 0) T.cl_World T.mt_World_show (ok_World_show T) (hr.mono (by decide)) T.b_World_show .nil pass2 (@pa_2 _ _ _ _ _ (pv 2) (pv 3) rfl rfl)))) pss_nil)
      (@pss_cons _ _ _ _ _ (ps_if (pt_cmpR op_eq (pv 1) pe_int (nomark _)) (@pss_one _ _ _ (ps_ret (pe_meth (pv 0) T.cl_World T.mt_World_come (ok_World_come T) (hr.mono (by decide)) T.b_World_come .nil pass2 (pa_more (pv 2) pa_nil)))) pss_nil)
      (@pss_cons _ _ _ _ _ (ps_if (pt_cmpR op_eq (pv 1) pe_int (nomark _)) (@pss_one _ _ _ (ps_ret (pe_meth (pv 0) T.cl_World T.mt_World_sums (ok_World_sums T) (hr.mono (by decide)) T.b_World_sums .nil pass2 (pa_more (pv 2) pa_nil)))) pss_nil)
      (@pss_cons _ _ _ _ _ (ps_if (pt_cmpR op_eq (pv 1) pe_int (nomark _)) (@pss_one _ _ _ (ps_ret (pe_meth (pv 0) T.cl_World T.mt_World_voted (ok_World_voted T) (hr.mono (by decide)) T.b_World_voted .nil pass2 (@pa_3 _ _ _ _ _ _ _ (pv 2) (pv 3) pe_int rfl rfl rfl)))) pss_nil)
      (@pss_one _ _ _ (ps_ret (pe_ifExp (pt_cmpR op_eq (pv 1) pe_int (nomark _)) (pe_meth (pv 0) T.cl_World T.mt_World_next_number (ok_World_next_number T) (hr.mono (by decide)) T.b_World_next_number .nil pass2 (pa_more (pv 2) pa_nil)) (pe_meth (pv 0) T.cl_World T.mt_World_paper (ok_World_paper T) (hr.mono (by decide)) T.b_World_paper .nil pass2 (pa_more (pv 2) pa_nil)))))))))))), ?_⟩
    have hno : ∀ (W : Wo) {m : Str}, (¬ m = "on_way" ∧ ¬ m = "asked" ∧ ¬ m = "board" ∧ ¬ m = "keepers" ∧ ¬ m = "cheating" ∧ ¬ m = "lying" ∧ ¬ m = "total" ∧ ¬ m = "purses") → (W.fs).lookup m = none := fun W {m} h => wof_no _ _ _ _ _ _ _ _ h
    rcases hc with ⟨a, hc, g⟩ | ⟨rfl, W, i, r, hA, q⟩
    · rcases hc with ⟨rfl, hR⟩ | ⟨rfl, hR⟩ | ⟨rfl, hR⟩ | ⟨rfl, hR⟩ | ⟨rfl, hR⟩ | ⟨rfl, hR⟩ | ⟨rfl, hR⟩ | ⟨rfl, hR⟩ | ⟨rfl, hR⟩
      · obtain ⟨W, row, way, p, g, m, e, O, rest⟩ := hR
        cases e
        refine ⟨_, rfl, rfl, _, rfl, iteT ?_⟩
        exact ⟨_, rfl, W.x, W.dx, _, rfl, O.ob, hno W (by decide +kernel), _, rfl, _, rfl, _, rfl, .inl ⟨a, ⟨W, row, way, _, _, _, rfl, O, rest⟩, g⟩⟩
      · obtain ⟨W, o, h, e, O, rest⟩ := hR
        cases e
        refine ⟨_, rfl, rfl, _, rfl, iteF ?_⟩
        refine ⟨_, rfl, rfl, _, rfl, iteT ?_⟩
        exact ⟨_, rfl, W.x, W.dx, _, rfl, O.c.ob, hno W (by decide +kernel), _, rfl, _, rfl, a, ⟨W, _, _, rfl, O, rest⟩, g⟩
      · obtain ⟨W, l, o, e, O, rest⟩ := hR
        cases e
        refine ⟨_, rfl, rfl, _, rfl, iteF ?_⟩
        refine ⟨_, rfl, rfl, _, rfl, iteF ?_⟩
        refine ⟨_, rfl, rfl, _, rfl, iteT ?_⟩
        exact ⟨_, rfl, W.x, W.dx, _, rfl, O.c.ob, hno W (by decide +kernel), _, rfl, _, rfl, a, ⟨W, _, _, rfl, O, rest⟩, g⟩
      · obtain ⟨W, o, h, e, O, rest⟩ := hR
        cases e
        refine ⟨_, rfl, rfl, _, rfl, iteF ?_⟩
        refine ⟨_, rfl, rfl, _, rfl, iteF ?_⟩
        refine ⟨_, rfl, rfl, _, rfl, iteF ?_⟩
        refine ⟨_, rfl, rfl, _, rfl, iteT ?_⟩
        exact ⟨_, rfl, W.x, W.dx, _, rfl, O.c.ob, hno W (by decide +kernel), _, rfl, _, rfl, a, ⟨W, _, _, rfl, O, rest⟩, g⟩
      · obtain ⟨W, v, e, O, rest⟩ := hR
        cases e
        refine ⟨_, rfl, rfl, _, rfl, iteF ?_⟩
        refine ⟨_, rfl, rfl, _, rfl, iteF ?_⟩
        refine ⟨_, rfl, rfl, _, rfl, iteF ?_⟩
        refine ⟨_, rfl, rfl, _, rfl, iteF ?_⟩
        refine ⟨_, rfl, rfl, _, rfl, iteT ?_⟩
        exact ⟨_, rfl, W.x, W.dx, _, rfl, O.c.ob, hno W (by decide +kernel), _, rfl, a, ⟨W, _, rfl, O, rest⟩, g⟩
      · obtain ⟨W, v, e, O, rest⟩ := hR
        cases e
        refine ⟨_, rfl, rfl, _, rfl, iteF ?_⟩
        refine ⟨_, rfl, rfl, _, rfl, iteF ?_⟩
        refine ⟨_, rfl, rfl, _, rfl, iteF ?_⟩
        refine ⟨_, rfl, rfl, _, rfl, iteF ?_⟩
        refine ⟨_, rfl, rfl, _, rfl, iteF ?_⟩
        refine ⟨_, rfl, rfl, _, rfl, iteT ?_⟩
        exact ⟨_, rfl, W.x, W.dx, _, rfl, O.c.ob, hno W (by decide +kernel), _, rfl, a, ⟨W, _, rfl, O, rest⟩, g⟩
      · obtain ⟨W, h, p, n, e, O, rest⟩ := hR
        cases e
        refine ⟨_, rfl, rfl, _, rfl, iteF ?_⟩
        refine ⟨_, rfl, rfl, _, rfl, iteF ?_⟩
        refine ⟨_, rfl, rfl, _, rfl, iteF ?_⟩
        refine ⟨_, rfl, rfl, _, rfl, iteF ?_⟩
        refine ⟨_, rfl, rfl, _, rfl, iteF ?_⟩
        refine ⟨_, rfl, rfl, _, rfl, iteF ?_⟩
        refine ⟨_, rfl, rfl, _, rfl, iteT ?_⟩
        exact ⟨_, rfl, W.x, W.dx, _, rfl, O.c.ob, hno W (by decide +kernel), _, rfl, _, rfl, a, ⟨W, _, _, _, rfl, O, rest⟩, g⟩
      · obtain ⟨W, row, way, v, e, O, rest⟩ := hR
        cases e
        refine ⟨_, rfl, rfl, _, rfl, iteF ?_⟩
        refine ⟨_, rfl, rfl, _, rfl, iteF ?_⟩
        refine ⟨_, rfl, rfl, _, rfl, iteF ?_⟩
        refine ⟨_, rfl, rfl, _, rfl, iteF ?_⟩
        refine ⟨_, rfl, rfl, _, rfl, iteF ?_⟩
        refine ⟨_, rfl, rfl, _, rfl, iteF ?_⟩
        refine ⟨_, rfl, rfl, _, rfl, iteF ?_⟩
        refine ⟨_, rfl, rfl, _, rfl, iteT ?_⟩
        exact ⟨_, rfl, W.x, W.dx, _, rfl, O.ob, hno W (by decide +kernel), _, rfl, W, row, way, _, rfl, O, rest.1, rest.2.1, (by rw [rest.2.2] at g; exact g)⟩
      · obtain ⟨W, o, e, O, rest⟩ := hR
        cases e
        refine ⟨_, rfl, rfl, _, rfl, iteF ?_⟩
        refine ⟨_, rfl, rfl, _, rfl, iteF ?_⟩
        refine ⟨_, rfl, rfl, _, rfl, iteF ?_⟩
        refine ⟨_, rfl, rfl, _, rfl, iteF ?_⟩
        refine ⟨_, rfl, rfl, _, rfl, iteF ?_⟩
        refine ⟨_, rfl, rfl, _, rfl, iteF ?_⟩
        refine ⟨_, rfl, rfl, _, rfl, iteF ?_⟩
        refine ⟨_, rfl, rfl, _, rfl, iteF ?_⟩
        exact ⟨_, rfl, W.x, W.dx, _, rfl, O.c.ob, hno W (by decide +kernel), _, rfl, a, ⟨W, _, rfl, O, rest⟩, g⟩
    · obtain ⟨j, k, z, e, O, rest⟩ := hA
      cases e
      refine ⟨_, rfl, rfl, _, rfl, iteT ?_⟩
      exact ⟨_, rfl, W.x, W.dx, _, rfl, O.c.ob, hno W (by decide +kernel), _, rfl, _, rfl, _, rfl, .inr ⟨W, i, r, ⟨j, k, z, rfl, O, rest⟩, q⟩⟩
def Tells (H : Hp) (Q : VK) : Ans → Prop
  | .hou v => ∀ r H', H r = none → Same H H' → H' r = some (.tup [.str "house", v]) → Q (.ref r) H'
  | .pur v => ∀ r H', H r = none → Same H H' → H' r = some (.tup [.str "purse", v]) → Q (.ref r) H'
  | .num => ∀ H', Same H H' → Q (.str "number") H'
  | .ord => ∀ H', Same H H' → Q (.str "order") H'
  | .let_ => ∀ H', Same H H' → Q (.str "letter") H'
  | .now => ∀ H', Same H H' → Q (.str "now") H'
  | .much => ∀ H', Same H H' → Q (.str "much") H'
  | .pap => ∀ H', Same H H' → Q (.str "paper") H'
def Fled (t : Ad) (H : Hp) (cls : Value) (dd : Option Addr) (a : Ans) : Prop := (∃ v d, a = .hou v ∧ cls = .ref t.a_NoHouse ∧ dd = some d ∧ H d = some (.xd [("house", v)])) ∨ (∃ v d, a = .pur v ∧ cls = .ref t.a_NoPurse ∧ dd = some d ∧ H d = some (.xd [("purse", v)])) ∨ (a = .num ∧ cls = .ref t.a_BadNumber) ∨ (a = .ord ∧ cls = .ref t.a_BadOrder) ∨ (a = .let_ ∧ cls = .ref t.a_NoLetter) ∨ (a = .now ∧ cls = .ref t.a_NotNow) ∨ (a = .much ∧ cls = .ref t.a_TooMuch) ∨ (a = .pap ∧ cls = .ref t.a_BadPaper)
theorem gone_fled {t : Ad} {H : Hp} {E : XK} {a : Ans} (h : ∀ cls dd H', Same H H' → Fled t H' cls dd a → E cls dd H') : Gone t E H a := by
  cases a with
  | hou v => exact fun d H' s hd => h _ _ _ s (.inl ⟨v, d, rfl, rfl, rfl, hd⟩)
  | pur v => exact fun d H' s hd => h _ _ _ s (.inr (.inl ⟨v, d, rfl, rfl, rfl, hd⟩))
  | num => exact fun H' s => h _ _ _ s (.inr (.inr (.inl ⟨rfl, rfl⟩)))
  | ord => exact fun H' s => h _ _ _ s (.inr (.inr (.inr (.inl ⟨rfl, rfl⟩))))
  | let_ => exact fun H' s => h _ _ _ s (.inr (.inr (.inr (.inr (.inl ⟨rfl, rfl⟩)))))
  | now => exact fun H' s => h _ _ _ s (.inr (.inr (.inr (.inr (.inr (.inl ⟨rfl, rfl⟩))))))
  | much => exact fun H' s => h _ _ _ s (.inr (.inr (.inr (.inr (.inr (.inr (.inl ⟨rfl, rfl⟩)))))))
  | pap => exact fun H' s => h _ _ _ s (.inr (.inr (.inr (.inr (.inr (.inr (.inr ⟨rfl, rfl⟩)))))))
def sp_asked (t : Ad) : Sp := fun vs H Q _ => ∃ x k o1 o2 o3, vs = [x, .int k, o1, o2, o3] ∧ ((∃ a, DidR t H x k o1 o2 o3 a ∧ Tells H Q a) ∨ (k = 0 ∧ ∃ W i r, TAsk t H [x, o1, o2, o3] W i r ∧ ∀ H' q ou ts row, WoC t H' W row ts → ts.length = W.kvs.length → row i.toNat = [.ref q] → H' q = some (.tup (ordV ou)) → Q (.str "told") H'))
theorem ok__law_asked (T : Txt K mg t) : FnOk P w K mg base CX0 8 t.f__law_asked t.d__law_asked ["_law_world", "_law_kind", "_law_one", "_law_two", "_law_three"] (sp_asked t) := by
  refine T.F__law_asked.ok sc__law_asked (fun vs H Q E h => ?_) (fun cdv A outer s H vs Q E hr h => ?_)
  · obtain ⟨x, k, o1, o2, o3, rfl, _⟩ := h
    rfl
  · obtain ⟨x, kd, o1, o2, o3, rfl, hc⟩ := h
    refine ⟨_, (@pss_cons _ _ _ _ _ (ps_set (i := 5) sc__law_asked.nd rfl (Or.inl rfl) pe_non)
      (@pss_cons _ _ _ _ _ (ps_set (i := 6) sc__law_asked.nd rfl (Or.inl rfl) pe_non)
      (@pss_cons _ _ _ _ _ (ps_try3 (i := 7) rfl rfl rfl rfl T.m_NoHouse T.be_NoHouse rfl T.m_NoPurse T.be_NoPurse rfl T.m_PurseError T.be_PurseError sc__law_asked.nd rfl rfl (fun _ _ => (@pss_one _ _ _ (ps_expr (pe_callU (ok__law_did T) (hr.mono (by decide)) rfl T.m__law_did T.F__law_did.kp T.b__law_did .nil (@pa_5 _ _ _ _ _ _ _ _ _ _ _ (pv 0) (pv 1) (pv 2) (pv 3) (pv 4) rfl rfl rfl rfl rfl))))) (fun _ => (@pss_cons _ _ _ _ _ (@ps_set _ _ 6 _ _ _ _ sc__law_asked.nd rfl (Or.inl rfl) (@pe_tup _ _ _ _ _ (@pa_2 _ _ _ _ _ pe_str (px (K := K) 7) rfl rfl)) (by rfl) (by first | exact .inl rfl | exact .inr rfl))
      (@pss_one _ _ _ (ps_set (i := 5) sc__law_asked.nd rfl (Or.inl rfl) (pv 7))))) (fun _ => (@pss_cons _ _ _ _ _ (@ps_set _ _ 6 _ _ _ _ sc__law_asked.nd rfl (Or.inl rfl) (@pe_tup _ _ _ _ _ (@pa_2 _ _ _ _ _ pe_str (px (K := K) 7) rfl rfl)) (by rfl) (by first | exact .inl rfl | exact .inr rfl))
      (@pss_one _ _ _ (ps_set (i := 5) sc__law_asked.nd rfl (Or.inl rfl) (pv 7))))) (fun _ => (@pss_cons _ _ _ _ _ (ps_set (i := 6) sc__law_asked.nd rfl (Or.inl rfl) pe_non)
      (@pss_one _ _ _ (ps_set (i := 5) sc__law_asked.nd rfl (Or.inl rfl) (pv 7))))))
      (@pss_one _ _ _ (ps_ret (pe_ifExp (pt_cmpR op_isN (pv 5) pe_non (nomark _)) pe_str (pe_ifExp (pt_cmpR op_isN (pv 6) pe_non (nomark _)) (pe_call (ok__law_refusal T) (hr.mono (by decide)) rfl T.m__law_refusal T.F__law_refusal.kp T.b__law_refusal .nil pass0 (pa_more (pv 5) pa_nil)) (pv 6)))))))), ?_⟩
    rcases hc with ⟨a, hR, k⟩ | ⟨rfl, W, i, r, hA, q⟩
    · refine ⟨fun σ' cls dd H' => σ' = [some x, some (.int kd), some o1, some o2, some o3, some .non, some .non, none] ∧ Same H H' ∧ Fled t H' cls dd a, ?_, ?_⟩
      · exact ⟨_, rfl, _, rfl, _, rfl, _, rfl, _, rfl, x, kd, o1, o2, o3, rfl, .inl ⟨a, hR, gone_fled fun cls dd H' s' f => ⟨rfl, s', f⟩⟩⟩
      · rintro σ' cls dd H' ea ⟨rfl, sm, hw⟩ hea
        have sx : ∀ {u : HO}, Same H (upd H' ea u) := fun {u} => sm.trans (same_upd hea)
        rcases hw with ⟨v, d', rfl, rfl, rfl, hd⟩ | ⟨v, d', rfl, rfl, rfl, hd⟩ | ⟨rfl, rfl⟩ | ⟨rfl, rfl⟩ | ⟨rfl, rfl⟩ | ⟨rfl, rfl⟩ | ⟨rfl, rfl⟩ | ⟨rfl, rfl⟩
        · refine ⟨t.a_NoHouse, rfl, .inl ⟨T.xc_NoHouse_NoHouse, ?_⟩⟩
          have hd1 := same_upd (o := ExcO ea (.ref t.a_NoHouse) (some d')) hea _ _ hd
          refine ⟨_, rfl, ea, t.a_NoHouse, t.f_NoHouse___init__, d', _, v, rfl, upd_same, hd1, T.xin_NoHouse, rfl, zs2, fun r hr => ?_⟩
          have rea : r ≠ ea := (ne_of_none upd_same hr).symm
          have hr' : H' r = none := by rw [upd_ne rea] at hr; exact hr
          refine ⟨_, rfl, ?_, ?_⟩
          · rw [upd_ne (Ne.symm rea), upd_same]
          · refine ⟨_, rfl, rfl, _, rfl, iteF ⟨_, rfl, rfl, _, rfl, iteF ⟨_, rfl, ?_⟩⟩⟩
            refine k r _ (sm.free hr') (fun x u e => ?_) (by rw [upd_ne rea, upd_same])
            have e' := sm _ _ e
            rw [upd_ne (ne_of_none e' hea), upd_ne (ne_of_none e' hr'), upd_ne (ne_of_none e' hea)]
            exact e'
        · refine ⟨t.a_NoPurse, rfl, .inr (.inl ⟨T.xc_NoPurse_NoHouse, T.xc_NoPurse_NoPurse, ?_⟩)⟩
          have hd1 := same_upd (o := ExcO ea (.ref t.a_NoPurse) (some d')) hea _ _ hd
          refine ⟨_, rfl, ea, t.a_NoPurse, t.f_NoPurse___init__, d', _, v, rfl, upd_same, hd1, T.xin_NoPurse, rfl, zs2, fun r hr => ?_⟩
          have rea : r ≠ ea := (ne_of_none upd_same hr).symm
          have hr' : H' r = none := by rw [upd_ne rea] at hr; exact hr
          refine ⟨_, rfl, ?_, ?_⟩
          · rw [upd_ne (Ne.symm rea), upd_same]
          · refine ⟨_, rfl, rfl, _, rfl, iteF ⟨_, rfl, rfl, _, rfl, iteF ⟨_, rfl, ?_⟩⟩⟩
            refine k r _ (sm.free hr') (fun x u e => ?_) (by rw [upd_ne rea, upd_same])
            have e' := sm _ _ e
            rw [upd_ne (ne_of_none e' hea), upd_ne (ne_of_none e' hr'), upd_ne (ne_of_none e' hea)]
            exact e'
        · refine ⟨t.a_BadNumber, rfl, .inr (.inr ⟨T.xc_BadNumber_NoHouse, T.xc_BadNumber_NoPurse, T.xc_BadNumber_PurseError, ?_⟩)⟩
          refine ⟨_, rfl, upd_same, ?_⟩
          rw [upd_upd]
          refine ⟨_, rfl, rfl, _, rfl, iteF ⟨_, rfl, rfl, _, rfl, iteT ?_⟩⟩
          exact ⟨_, rfl, ea, t.a_BadNumber, true, false, false, false, false, false, false, false, false, false, false, .str "number", rfl, upd_same, T.xi_BadNumber, T.xk_BadNumber, by decide, rfl, fun H'' s'' => k _ (sx.trans s'')⟩
        · refine ⟨t.a_BadOrder, rfl, .inr (.inr ⟨T.xc_BadOrder_NoHouse, T.xc_BadOrder_NoPurse, T.xc_BadOrder_PurseError, ?_⟩)⟩
          refine ⟨_, rfl, upd_same, ?_⟩
          rw [upd_upd]
          refine ⟨_, rfl, rfl, _, rfl, iteF ⟨_, rfl, rfl, _, rfl, iteT ?_⟩⟩
          exact ⟨_, rfl, ea, t.a_BadOrder, false, true, false, false, false, false, false, false, false, false, false, .str "order", rfl, upd_same, T.xi_BadOrder, T.xk_BadOrder, by decide, rfl, fun H'' s'' => k _ (sx.trans s'')⟩
        · refine ⟨t.a_NoLetter, rfl, .inr (.inr ⟨T.xc_NoLetter_NoHouse, T.xc_NoLetter_NoPurse, T.xc_NoLetter_PurseError, ?_⟩)⟩
          refine ⟨_, rfl, upd_same, ?_⟩
          rw [upd_upd]
          refine ⟨_, rfl, rfl, _, rfl, iteF ⟨_, rfl, rfl, _, rfl, iteT ?_⟩⟩
          exact ⟨_, rfl, ea, t.a_NoLetter, false, false, false, false, false, true, false, false, false, false, false, .str "letter", rfl, upd_same, T.xi_NoLetter, T.xk_NoLetter, by decide, rfl, fun H'' s'' => k _ (sx.trans s'')⟩
        · refine ⟨t.a_NotNow, rfl, .inr (.inr ⟨T.xc_NotNow_NoHouse, T.xc_NotNow_NoPurse, T.xc_NotNow_PurseError, ?_⟩)⟩
          refine ⟨_, rfl, upd_same, ?_⟩
          rw [upd_upd]
          refine ⟨_, rfl, rfl, _, rfl, iteF ⟨_, rfl, rfl, _, rfl, iteT ?_⟩⟩
          exact ⟨_, rfl, ea, t.a_NotNow, false, false, false, false, false, false, true, false, false, false, false, .str "now", rfl, upd_same, T.xi_NotNow, T.xk_NotNow, by decide, rfl, fun H'' s'' => k _ (sx.trans s'')⟩
        · refine ⟨t.a_TooMuch, rfl, .inr (.inr ⟨T.xc_TooMuch_NoHouse, T.xc_TooMuch_NoPurse, T.xc_TooMuch_PurseError, ?_⟩)⟩
          refine ⟨_, rfl, upd_same, ?_⟩
          rw [upd_upd]
          refine ⟨_, rfl, rfl, _, rfl, iteF ⟨_, rfl, rfl, _, rfl, iteT ?_⟩⟩
          exact ⟨_, rfl, ea, t.a_TooMuch, false, false, false, false, false, false, false, true, false, false, false, .str "much", rfl, upd_same, T.xi_TooMuch, T.xk_TooMuch, by decide, rfl, fun H'' s'' => k _ (sx.trans s'')⟩
        · refine ⟨t.a_BadPaper, rfl, .inr (.inr ⟨T.xc_BadPaper_NoHouse, T.xc_BadPaper_NoPurse, T.xc_BadPaper_PurseError, ?_⟩)⟩
          refine ⟨_, rfl, upd_same, ?_⟩
          rw [upd_upd]
          refine ⟨_, rfl, rfl, _, rfl, iteF ⟨_, rfl, rfl, _, rfl, iteT ?_⟩⟩
          exact ⟨_, rfl, ea, t.a_BadPaper, false, false, false, false, false, false, false, false, true, false, false, .str "paper", rfl, upd_same, T.xi_BadPaper, T.xk_BadPaper, by decide, rfl, fun H'' s'' => k _ (sx.trans s'')⟩
    · refine ⟨fun _ _ _ _ => False, ?_, fun _ _ _ _ _ z => z.elim⟩
      refine ⟨_, rfl, _, rfl, _, rfl, _, rfl, _, rfl, x, 0, o1, o2, o3, rfl, .inr ⟨rfl, W, i, r, hA, fun v H' q' ou ts row h1 h2 h3 h4 => ?_⟩⟩
      exact ⟨_, rfl, rfl, _, rfl, iteT (q H' q' ou ts row h1 h2 h3 h4)⟩
def dtS : V → Dt
  | .int i => .int i
  | .bl b => .bl b
  | .str z => .str z
  | _ => .non
theorem hasD_simple {K : W.Frag} {H : Hp} {x : V} (h : simple x = true) : HasD K H (dtS x) x := by
  cases x <;> first | (show HasD K H (Dt.non) V.non; rw [HasD]) | (show HasD K H (Dt.int _) (V.int _); rw [HasD]) | (show HasD K H (Dt.bl _) (V.bl _); rw [HasD]) | (show HasD K H (Dt.str _) (V.str _); rw [HasD]) | cases h
theorem eqD_simple (x : V) : eqD (dtS x) (dtS x) = true := by
  cases x <;> simp [dtS, eqD]
def purD (z : Str) (v : V) : Dt := .tup [.str z, dtS v]
theorem hasD_pur {K : W.Frag} {H : Hp} {r : Addr} {z : Str} {v : V} (h : H r = some (.tup [.str z, v])) (s : simple v = true) : HasD K H (purD z v) (.ref r) := by
  unfold purD
  rw [HasD]
  refine ⟨r, _, rfl, SqT.of h, ?_⟩
  rw [HasDs]
  refine ⟨_, _, rfl, by rw [HasD], ?_⟩
  rw [HasDs]
  exact ⟨_, _, rfl, hasD_simple s, by rw [HasDs]⟩
theorem eqD_pur (z : Str) (v : V) : eqD (purD z v) (purD z v) = true := by
  unfold purD
  rw [eqD, eqDs, eqDs, eqD_simple, eqDs]
  simp [eqD]
theorem dep_pur (z : Str) (v : V) : depD (purD z v) ≤ 60 := by
  unfold purD
  cases v <;> simp [dtS, depD, depDs]
def purDs (ps : List (Str × V)) : List Dt := ps.map fun p => purD p.1 p.2
theorem hasDs_pur {K : W.Frag} {H : Hp} : ∀ {ps : List (Str × V)} {xs : List V}, Paired (fun (p : Str × V) x => simple p.2 = true ∧ ∃ r, x = .ref r ∧ H r = some (.tup [.str p.1, p.2])) ps xs → HasDs K H (purDs ps) xs
  | _, _, .nil => by rw [purDs, List.map_nil, HasDs]
  | p :: ps, x :: xs, .cons ⟨s, r, e, h⟩ t => by
    rw [purDs, List.map_cons, HasDs]
    subst e
    exact ⟨_, _, rfl, hasD_pur h s, hasDs_pur t⟩
theorem hasD_purs {K : W.Frag} {H : Hp} {a : Addr} {ps : List (Str × V)} {xs : List V} (h : H a = some (.lst xs)) (q : Paired (fun (p : Str × V) x => simple p.2 = true ∧ ∃ r, x = .ref r ∧ H r = some (.tup [.str p.1, p.2])) ps xs) : HasD K H (.lst (purDs ps)) (.ref a) := by
  rw [HasD]
  exact ⟨a, _, rfl, SqL.of h, hasDs_pur q⟩
theorem eqDs_pur : ∀ ps : List (Str × V), eqDs (purDs ps) (purDs ps) = true
  | [] => by rw [purDs, List.map_nil, eqDs]
  | p :: ps => by
    have := eqDs_pur ps
    rw [purDs] at this
    rw [purDs, List.map_cons, eqDs, eqD_pur, this]
    rfl
theorem eqD_purs (ps : List (Str × V)) : eqD (.lst (purDs ps)) (.lst (purDs ps)) = true := by
  rw [eqD]
  exact eqDs_pur ps
theorem depDs_pur : ∀ ps : List (Str × V), depDs (purDs ps) ≤ 50
  | [] => by rw [purDs, List.map_nil]; simp [depDs]
  | p :: ps => by
    have := depDs_pur ps
    rw [purDs] at this
    rw [purDs, List.map_cons, depDs]
    have q : depD (purD p.1 p.2) ≤ 50 := by
      unfold purD
      cases p.2 <;> simp [dtS, depD, depDs]
    omega
theorem dep_purs (ps : List (Str × V)) : depD (.lst (purDs ps)) ≤ 60 := by
  have := depDs_pur ps
  rw [depD]
  omega
structure Wor (t : Ad) (H : Hp) (W : Wo) : Prop where
  o : WoAt t H W
  n : W.n = 3
  lv : W.lv = [.int 3]
  cv : W.cv = [.int 2]
  ns : W.ns = [10, 0, 5]
  ks : W.kvs.map (·.1) = [.inl 0, .inl 1, .inl 2]
  rl : W.ros.length = 3
  en : W.en = 3
theorem Wor.same {t : Ad} {H H' : Hp} {W : Wo} (s : Same H H') (w : Wor t H W) : Wor t H' W := ⟨w.o.same s, w.n, w.lv, w.cv, w.ns, w.ks, w.rl, w.en⟩
theorem Wor.hon {t : Ad} {H : Hp} {W : Wo} (w : Wor t H W) {v : V} (e : isB v 0 2 = false) : notHon W v := fun i ei => valV_out (by
  rw [w.ks]
  subst ei
  have e' := of_decide_eq_false e
  intro z
  simp only [List.mem_cons, List.not_mem_nil, or_false] at z
  rcases z with z | z | z
  · exact e' (by cases z; decide)
  · exact e' (by cases z; decide)
  · exact e' (by cases z; decide))
theorem Wor.hon0 {t : Ad} {H : Hp} {W : Wo} (w : Wor t H W) : ∃ u, valV W.kvs (.inl 0) = some u := by
  cases e : valV W.kvs (.inl 0) with
  | none => exact absurd (by rw [w.ks]; exact List.mem_cons_self) (valV_not e)
  | some u => exact ⟨u, rfl⟩
theorem Wor.n2 {t : Ad} {H : Hp} {W : Wo} (w : Wor t H W) : W.n - 1 = 2 := by rw [w.n]; rfl
theorem Wor.ro {t : Ad} {H : Hp} {W : Wo} (w : Wor t H W) {i : Nat} (h : i < 3) : ∃ r, W.ros[i]? = some r := ⟨_, List.getElem?_eq_getElem (by rw [w.rl]; exact h)⟩
theorem Wor.kl {t : Ad} {H : Hp} {W : Wo} (w : Wor t H W) : W.kvs.length = 3 := by
  have := congrArg List.length w.ks
  rw [List.length_map] at this
  exact this
variable {H : Hp} {W : Wo}
theorem d_askP (w : Wor t H W) {p g m : V} (sp : simple p = true) (sg : simple g = true) (sm : simple m = true) (e : isB p 0 2 = false) : DidR t H (.ref W.x) 0 p g m (.pur p) :=
  .inl ⟨rfl, W, _, _, p, g, m, rfl, w.o.c, sp, sg, sm, .inl ⟨by rw [w.n2]; exact e, rfl⟩⟩
theorem d_askG (w : Wor t H W) {p g m : V} (sp : simple p = true) (sg : simple g = true) (sm : simple m = true) (e1 : isB p 0 2 = true) (e : isB g 0 2 = false) : DidR t H (.ref W.x) 0 p g m (.pur g) :=
  .inl ⟨rfl, W, _, _, p, g, m, rfl, w.o.c, sp, sg, sm, .inr (.inl ⟨by rw [w.n2]; exact e1, by rw [w.n2]; exact e, rfl⟩)⟩
theorem d_askC (w : Wor t H W) {p g m : V} (sp : simple p = true) (sg : simple g = true) (sm : simple m = true) (e1 : isB p 0 2 = true) (e : isB g 0 2 = true) (z : inV p [.int 2] = true ∨ g = p) : DidR t H (.ref W.x) 0 p g m (.pur p) :=
  .inl ⟨rfl, W, _, _, p, g, m, rfl, w.o.c, sp, sg, sm, .inr (.inr ⟨by rw [w.n2]; exact e1, by rw [w.n2]; exact e, .inl ⟨by rw [w.cv]; exact z, rfl⟩⟩)⟩
theorem d_askN (w : Wor t H W) {m : V} (sm : simple m = true) (e : isB m 1 1000 = false) : DidR t H (.ref W.x) 0 (.int 0) (.int 1) m .num :=
  .inl ⟨rfl, W, _, _, .int 0, .int 1, m, rfl, w.o.c, rfl, rfl, sm, .inr (.inr ⟨by rw [w.n2]; rfl, by rw [w.n2]; rfl, .inr ⟨by rw [w.cv]; rfl, by decide, .inl ⟨e, rfl⟩⟩⟩)⟩
theorem d_askM (w : Wor t H W) : DidR t H (.ref W.x) 0 (.int 0) (.int 1) (.int 11) .much := by
  obtain ⟨r, hr⟩ := w.ro (i := 0) (by decide)
  refine .inl ⟨rfl, W, _, _, .int 0, .int 1, .int 11, rfl, w.o.c, rfl, rfl, rfl, .inr (.inr ⟨by rw [w.n2]; rfl, by rw [w.n2]; rfl, .inr ⟨by rw [w.cv]; rfl, by decide, .inr ⟨rfl, 0, r, rfl, hr, .inr ⟨11, 10, rfl, rfl, w.o.kd, fun kv hkv => let ⟨k, e, q⟩ := w.o.kp kv hkv; ⟨k, e, q.at_⟩, ?_, ?_, ?_, by decide, rfl⟩⟩⟩⟩)⟩
  · rw [w.kl]; decide
  · rw [w.kl]; decide
  · rw [w.ns]; rfl
theorem d_next (w : Wor t H W) {p g m : V} (sp : simple p = true) (e : isB p 0 2 = false) : DidR t H (.ref W.x) 7 p g m (.pur p) :=
  .inr (.inr (.inr (.inr (.inr (.inr (.inr (.inl ⟨rfl, W, _, _, p, rfl, w.o.c, sp, by rw [w.n2]; exact e, rfl⟩)))))))
theorem d_votP (w : Wor t H W) {p m : V} (sp : simple p = true) (e : isB p 0 2 = false) : DidR t H (.ref W.x) 6 (.int 0) p m (.pur p) := by
  obtain ⟨u, hu⟩ := w.hon0
  exact .inr (.inr (.inr (.inr (.inr (.inr (.inl ⟨rfl, W, .int 0, p, .int 0, rfl, w.o, rfl, sp, .inr ⟨0, u, rfl, hu, by rw [w.n2]; exact e, rfl⟩⟩))))))
theorem d_votH (w : Wor t H W) {h p m : V} (sh : simple h = true) (sp : simple p = true) (e : isB h 0 2 = false) : DidR t H (.ref W.x) 6 h p m (.hou h) :=
  .inr (.inr (.inr (.inr (.inr (.inr (.inl ⟨rfl, W, h, p, .int 0, rfl, w.o, sh, sp, .inl ⟨w.hon e, rfl⟩⟩))))))
theorem d_sum (w : Wor t H W) {h p m : V} (sh : simple h = true) (e : isB h 0 2 = false) : DidR t H (.ref W.x) 5 h p m (.hou h) :=
  .inr (.inr (.inr (.inr (.inr (.inl ⟨rfl, W, h, rfl, w.o, sh, w.hon e, rfl⟩)))))
theorem d_come (w : Wor t H W) {v p m : V} (sv : simple v = true) (e : isB v 0 (-1) = false) : DidR t H (.ref W.x) 4 v p m .let_ :=
  .inr (.inr (.inr (.inr (.inl ⟨rfl, W, v, rfl, w.o, sv, e, rfl⟩))))
theorem d_showH (w : Wor t H W) {o h m : V} (sh : simple h = true) (e : isB h 0 2 = false) : DidR t H (.ref W.x) 3 o h m (.hou h) :=
  .inr (.inr (.inr (.inl ⟨rfl, W, o, h, rfl, w.o, sh, .inl ⟨w.hon e, rfl⟩⟩)))
theorem d_showP (w : Wor t H W) {q : Addr} {ou : O} {m : V} (hq : H q = some (.tup (ordV ou))) (ho : OrdIs H 3 (.ref q) true) : DidR t H (.ref W.x) 3 (.ref q) (.int 0) m .pap := by
  obtain ⟨u, hu⟩ := w.hon0
  exact .inr (.inr (.inr (.inl ⟨rfl, W, .ref q, .int 0, rfl, w.o, rfl, .inr ⟨0, u, q, ou, rfl, hu, rfl, hq, by rw [w.n]; exact ho, by rw [w.en]; decide, rfl⟩⟩)))
theorem d_papP (w : Wor t H W) {q : Addr} {ou : O} {p m : V} (hq : H q = some (.tup (ordV ou))) (ho : OrdIs H 3 (.ref q) true) : DidR t H (.ref W.x) 8 (.ref q) p m .pap :=
  .inr (.inr (.inr (.inr (.inr (.inr (.inr (.inr ⟨rfl, W, .ref q, rfl, w.o, .inr ⟨q, ou, rfl, hq, by rw [w.n]; exact ho, by rw [w.en]; decide, rfl⟩⟩)))))))
theorem d_papO (w : Wor t H W) {o p m : V} (ho : OrdIs H 3 o false) : DidR t H (.ref W.x) 8 o p m .ord :=
  .inr (.inr (.inr (.inr (.inr (.inr (.inr (.inr ⟨rfl, W, o, rfl, w.o, .inl ⟨by rw [w.n]; exact ho, rfl⟩⟩)))))))
theorem d_cheO (w : Wor t H W) {o h m : V} (sh : simple h = true) (ho : OrdIs H 3 o false) : DidR t H (.ref W.x) 1 o h m .ord :=
  .inr (.inl ⟨rfl, W, o, h, rfl, w.o, sh, .inl ⟨by rw [w.n]; exact ho, rfl⟩⟩)
theorem d_cheP (w : Wor t H W) {q : Addr} {ou : O} {h m : V} (sh : simple h = true) (hq : H q = some (.tup (ordV ou))) (ho : OrdIs H 3 (.ref q) true) (e : inV (.int ou.p) [.int 2] = false) : DidR t H (.ref W.x) 1 (.ref q) h m (.pur (.int ou.p)) :=
  .inr (.inl ⟨rfl, W, .ref q, h, rfl, w.o, sh, .inr ⟨q, ou, rfl, hq, by rw [w.n]; exact ho, .inl ⟨by rw [w.cv]; exact e, rfl⟩⟩⟩)
theorem d_cheH (w : Wor t H W) {q : Addr} {ou : O} {h m : V} (sh : simple h = true) (hq : H q = some (.tup (ordV ou))) (ho : OrdIs H 3 (.ref q) true) (e : inV (.int ou.p) [.int 2] = true) (eh : isB h 0 2 = false) : DidR t H (.ref W.x) 1 (.ref q) h m (.hou h) :=
  .inr (.inl ⟨rfl, W, .ref q, h, rfl, w.o, sh, .inr ⟨q, ou, rfl, hq, by rw [w.n]; exact ho, .inr ⟨by rw [w.cv]; exact e, w.hon eh, rfl⟩⟩⟩)
theorem d_lieH (w : Wor t H W) {l o m : V} (sl : simple l = true) (e : isI l = false ∨ inV l [.int 3] = false) : DidR t H (.ref W.x) 2 l o m (.hou l) :=
  .inr (.inr (.inl ⟨rfl, W, l, o, rfl, w.o, sl, .inl ⟨by rw [w.lv]; exact e, rfl⟩⟩))
theorem d_lieO (w : Wor t H W) {o m : V} (ho : OrdIs H 3 o false) : DidR t H (.ref W.x) 2 (.int 3) o m .ord :=
  .inr (.inr (.inl ⟨rfl, W, .int 3, o, rfl, w.o, rfl, .inr ⟨rfl, by rw [w.lv]; decide, .inl ⟨by rw [w.n]; exact ho, rfl⟩⟩⟩))
theorem d_lieP (w : Wor t H W) {q : Addr} {ou : O} {m : V} (hq : H q = some (.tup (ordV ou))) (ho : OrdIs H 3 (.ref q) true) (e : inV (.int ou.p) [.int 2] = false) (p0 : 0 ≤ ou.p) (p1 : ou.p < 3) : DidR t H (.ref W.x) 2 (.int 3) (.ref q) m (.pur (.int ou.p)) := by
  obtain ⟨r, hr⟩ := w.ro (i := ou.p.toNat) (by omega)
  exact .inr (.inr (.inl ⟨rfl, W, .int 3, .ref q, rfl, w.o, rfl, .inr ⟨rfl, by rw [w.lv]; decide, .inr ⟨q, r, ou, rfl, hq, by rw [w.n]; exact ho, by rw [w.cv]; exact e, p0, hr, rfl⟩⟩⟩))
theorem pick_of {xs : List V} {p : V → Bool} {i : Nat} {x : V} (h : xs.all p = true) (e : xs[i]? = some x) : p x = true := List.all_eq_true.mp h x (List.mem_of_getElem? e)
theorem lits_get {G H : Hp} : ∀ {ls : List Lit} {vs : List V} {i : Nat} {x : V}, Paired (LitAt G H) ls vs → vs[i]? = some x → ∃ l, ls[i]? = some l ∧ LitAt G H l x
  | _, _, i, x, .nil, e => by simp at e
  | _, _, 0, x, .cons h _, e => by
    have e' := Option.some.inj e
    subst e'
    exact ⟨_, rfl, h⟩
  | _, _, i + 1, x, .cons _ t, e => lits_get (i := i) t e
theorem lit_keep {T R : Addr} {G H H' : Hp} {l : Lit} {x : V} (hT : Town T R G) (k : KeepT T R H H') (h : LitAt G H l x) : LitAt G H' l x := h.keep fun p o g e => k p o e (hT.fresh g).1 (hT.fresh g).2
def litFoe : Lit → Bool
  | .c v => simple v
  | .l xs => xs.all simple && (!risesV xs 0 4 || decide ((1 : Int) < xs.length))
  | _ => false
theorem lit_foe {G H : Hp} {l : Lit} {y : V} (h : LitAt G H l y) (e : litFoe l = true) : ∃ r n, RowIs H 4 y r n ∧ (r = false ∨ (1 : Int) < (n : Nat)) := by
  cases l with
  | c w =>
    have h' : y = w := h
    subst h'
    exact ⟨false, 0, .inl ⟨e, rfl⟩, .inl rfl⟩
  | l xs =>
    obtain ⟨p, rfl, _, hp⟩ := h
    have e1 : (xs.all simple && (!risesV xs 0 4 || decide ((1 : Int) < xs.length))) = true := e
    rw [Bool.and_eq_true, Bool.or_eq_true, Bool.not_eq_true'] at e1
    exact ⟨risesV xs 0 4, xs.length, .inr ⟨p, xs, rfl, .inl hp, fun z hz => List.all_eq_true.mp e1.1 z hz, rfl, rfl⟩, e1.2.imp id of_decide_eq_true⟩
  | t xs => cases e
  | r xs k => cases e
def litRog : Lit → Bool
  | .c v => simple v
  | .l xs => xs.all simple && !risesV xs 0 2
  | _ => false
theorem lit_rog {G H : Hp} {l : Lit} {y : V} (h : LitAt G H l y) (e : litRog l = true) : ∃ n, RowIs H 2 y false n := by
  cases l with
  | c w =>
    have h' : y = w := h
    subst h'
    exact ⟨0, .inl ⟨e, rfl⟩⟩
  | l xs =>
    obtain ⟨p, rfl, _, hp⟩ := h
    have e1 : (xs.all simple && !risesV xs 0 2) = true := e
    rw [Bool.and_eq_true, Bool.not_eq_true'] at e1
    exact ⟨xs.length, .inr ⟨p, xs, rfl, .inl hp, fun z hz => List.all_eq_true.mp e1.1 z hz, e1.2.symm, rfl⟩⟩
  | t xs => cases e
  | r xs k => cases e
def noSum (xs : List V) : Bool := decide (xs.length ≤ 1000) && (xs.all simple && !sumOk xs)
def litSum : Lit → Bool
  | .c v => simple v
  | .t _ => true
  | .l xs => noSum xs
  | .r xs k => noSum (List.replicate k.toNat xs).flatten
theorem no_sum {H : Hp} {p : Addr} {xs : List V} (h : H p = some (.lst xs)) (e : noSum xs = true) : SumIs H (.ref p) false := by
  unfold noSum at e
  rw [Bool.and_eq_true, Bool.and_eq_true, Bool.not_eq_true'] at e
  exact .inr (.inr ⟨p, xs, rfl, h, of_decide_eq_true e.1, fun z hz => List.all_eq_true.mp e.2.1 z hz, e.2.2.symm⟩)
theorem lit_sum {G H : Hp} {l : Lit} {y : V} (h : LitAt G H l y) (e : litSum l = true) : SumIs H y false := by
  cases l with
  | c w =>
    have h' : y = w := h
    subst h'
    exact .inl ⟨e, rfl⟩
  | t xs =>
    obtain ⟨p, rfl, _, hp⟩ := h
    exact .inr (.inl ⟨p, xs, rfl, hp, rfl⟩)
  | l xs =>
    obtain ⟨p, rfl, _, hp⟩ := h
    exact no_sum hp e
  | r xs k =>
    obtain ⟨p, rfl, _, hp⟩ := h
    exact no_sum hp e
def wds : List Str := ["number", "number", "houses", "houses", "houses", "houses"]
theorem eqWd : eqD (.lst (wds.map Dt.str)) (.lst (wds.map Dt.str)) = true := by
  simp [eqD, eqDs, wds]
theorem depWd : depD (.lst (wds.map Dt.str)) ≤ 60 := by
  simp [depD, depDs, wds]
theorem row_of {H : Hp} {p : Addr} {xs : List V} {b : Int} {r : Bool} {n : Nat} (h : H p = some (.lst xs)) (s : xs.all simple = true) (e : risesV xs 0 b = r) (l : xs.length = n) : RowIs H b (.ref p) r n :=
  .inr ⟨p, xs, rfl, .inl h, fun z hz => List.all_eq_true.mp s z hz, e.symm, l.symm⟩
theorem sum_of {H : Hp} {p : Addr} {xs : List V} (h : H p = some (.lst xs)) (l : xs.length ≤ 1000) (s : xs.all simple = true) (e : sumOk xs = true) : SumIs H (.ref p) true :=
  .inr (.inr ⟨p, xs, rfl, h, l, fun z hz => List.all_eq_true.mp s z hz, e.symm⟩)
theorem hou4 {H : Hp} {ss fo ro : V} (hc : ∃ r n, RowIs H 4 fo r n ∧ ((r = false ∨ (1 : Int) < (n : Nat)) ∨ (r = true ∧ ((n : Nat) : Int) ≤ 1 ∧ ∃ b, SumIs H ss b ∧ (b = false ∨ (b = true ∧ ∃ sa xs n', ss = .ref sa ∧ H sa = some (.lst xs) ∧ RowIs H xs.length ro false n'))))) : MadeIs H (.int 4) (.int 1) ss fo ro "houses" :=
  .inr (.inl ⟨⟨4, 1, rfl, rfl, by decide, by decide, .inr ⟨by decide, hc⟩⟩, rfl⟩)
set_option maxHeartbeats 0 in
theorem ok__law_not_made (T : Txt K mg t) : FnOk P w K mg base CX0 10 t.f__law_not_made t.d__law_not_made ["_law_town_here"] (fun vs H Q _ => ∃ To R, vs = [.ref To] ∧ Town To R H ∧ ∀ H', Town To R H' → Q (.bl true) H') := by
  refine T.F__law_not_made.ok sc__law_not_made (fun vs H Q E h => ?_) (fun cdv A outer s H vs Q E hr h => ?_)
  · obtain ⟨To, R, rfl, _⟩ := h
    rfl
  · obtain ⟨To, R, rfl, hT, k⟩ := h
    refine ⟨_, (@pss_cons _ _ _ _ _ (ps_set (i := 1) sc__law_not_made.nd rfl (Or.inl rfl) (pe_call (ok__law_pick T) (hr.mono (by decide)) rfl T.m__law_pick T.F__law_pick.kp T.b__law_pick .nil pass0 (@pa_2 _ _ _ _ _ (pv 0) (@pe_lst _ _ _ _ (@pa_5 _ _ _ _ _ _ _ _ _ _ _ pe_int pe_int pe_bl pe_non pe_str rfl rfl rfl rfl rfl)) rfl rfl)))
      (@pss_cons _ _ _ _ _ (ps_set (i := 2) sc__law_not_made.nd rfl (Or.inl rfl) (pe_call (ok__law_pick T) (hr.mono (by decide)) rfl T.m__law_pick T.F__law_pick.kp T.b__law_pick .nil pass0 (@pa_2 _ _ _ _ _ (pv 0) (@pe_lst _ _ _ _ (@pa_4 _ _ _ _ _ _ _ _ _ pe_int (pe_op op_sub pe_int pe_int) pe_bl pe_non rfl rfl rfl rfl)) rfl rfl)))
      (@pss_cons _ _ _ _ _ (ps_set (i := 3) sc__law_not_made.nd rfl (Or.inl rfl) (pe_call (ok__law_pick T) (hr.mono (by decide)) rfl T.m__law_pick T.F__law_pick.kp T.b__law_pick .nil pass0 (@pa_2 _ _ _ _ _ (pv 0) (@pe_lst _ _ _ _ (@pa_lits _ _ [.l [.int 4], .l [.int 1, .int 0], .c (.non), .l [.int 0, .int 1], .l [.bl true]] rfl)) rfl rfl)))
      (@pss_cons _ _ _ _ _ (ps_set (i := 4) sc__law_not_made.nd rfl (Or.inl rfl) (pe_call (ok__law_pick T) (hr.mono (by decide)) rfl T.m__law_pick T.F__law_pick.kp T.b__law_pick .nil pass0 (@pa_2 _ _ _ _ _ (pv 0) (@pe_lst _ _ _ _ (@pa_lits _ _ [.l [.int 5], .l [], .c (.non), .t [.int 5, .int 5], .l [.int 5, .int 1001], .l [.int 5, .bl true], .r [.int 5] 9, .l [.int 5, .int (0 - 1)]] rfl)) rfl rfl)))
      (@pss_cons _ _ _ _ _ (ps_set (i := 5) sc__law_not_made.nd rfl (Or.inl rfl) (pe_call (ok__law_pick T) (hr.mono (by decide)) rfl T.m__law_pick T.F__law_pick.kp T.b__law_pick .nil pass0 (@pa_2 _ _ _ _ _ (pv 0) (@pe_lst _ _ _ _ (@pa_lits _ _ [.l [.int 2], .l [.int 1, .int 0], .c (.non), .l [.int 0, .int 0], .l [.str "0"]] rfl)) rfl rfl)))
      (@pss_cons _ _ _ _ _ (@ps_set _ _ 6 _ _ _ _ sc__law_not_made.nd rfl (Or.inl rfl) (@pe_lst _ _ _ _ (@pa_2 _ _ _ _ _ (pe_call (ok__law_made T) (hr.mono (by decide)) rfl T.m__law_made T.F__law_made.kp T.b__law_made .nil pass0 (@pa_5 _ _ _ _ _ _ _ _ _ _ _ (pv 1) (pv 2) (pv 4) (pv 3) (pv 5) rfl rfl rfl rfl rfl)) (pe_call (ok__law_made T) (hr.mono (by decide)) rfl T.m__law_made T.F__law_made.kp T.b__law_made .nil pass0 (@pa_5 _ _ _ _ _ _ _ _ _ _ _ pe_int (pv 2) (pv 4) (pv 3) (pv 5) rfl rfl rfl rfl rfl)) rfl rfl)) (by rfl) (by first | exact .inl rfl | exact .inr rfl))
      (@pss_cons _ _ _ _ _ (ps_set (i := 6) sc__law_not_made.nd rfl (Or.inl rfl) (pe_op op_cat (pv 6) (@pe_lst _ _ _ _ (@pa_2 _ _ _ _ _ (pe_call (ok__law_made T) (hr.mono (by decide)) rfl T.m__law_made T.F__law_made.kp T.b__law_made .nil pass0 (@pa_5 _ _ _ _ _ _ _ _ _ _ _ pe_int pe_int (pv 4) (pv 3) (pv 5) rfl rfl rfl rfl rfl)) (pe_call (ok__law_made T) (hr.mono (by decide)) rfl T.m__law_made T.F__law_made.kp T.b__law_made .nil pass0 (@pa_5 _ _ _ _ _ _ _ _ _ _ _ pe_int pe_int (pv 4) (pv 3) (pv 5) rfl rfl rfl rfl rfl)) rfl rfl))))
      (@pss_cons _ _ _ _ _ (ps_set (i := 6) sc__law_not_made.nd rfl (Or.inl rfl) (pe_op op_cat (pv 6) (@pe_lst _ _ _ _ (@pa_2 _ _ _ _ _ (pe_call (ok__law_made T) (hr.mono (by decide)) rfl T.m__law_made T.F__law_made.kp T.b__law_made .nil pass0 (@pa_5 _ _ _ _ _ _ _ _ _ _ _ pe_int pe_int (pv 4) (@pe_lst _ _ _ _ (pa_more pe_int pa_nil)) (pv 5) rfl rfl rfl rfl rfl)) (pe_call (ok__law_made T) (hr.mono (by decide)) rfl T.m__law_made T.F__law_made.kp T.b__law_made .nil pass0 (@pa_5 _ _ _ _ _ _ _ _ _ _ _ pe_int pe_int (@pe_lst _ _ _ _ (@pa_2 _ _ _ _ _ pe_int pe_int rfl rfl)) (@pe_lst _ _ _ _ (pa_more pe_int pa_nil)) (pv 5) rfl rfl rfl rfl rfl)) rfl rfl))))
      (@pss_cons _ _ _ _ _ (ps_if (pt_cmpR op_ne (pe_call (ok__law_made T) (hr.mono (by decide)) rfl T.m__law_made T.F__law_made.kp T.b__law_made .nil pass0 (@pa_lits _ _ [.c (.int 3), .c (.int 1), .l [.int 5, .int 5], .l [], .l []] rfl)) pe_str (nomark _)) (@pss_one _ _ _ (ps_ret pe_bl)) pss_nil)
      (@pss_one _ _ _ (ps_ret (pe_and (pe_cmpR (op_eqD hr.units) (pv 6) (pe_op op_cat (pe_op op_rep (@pe_lst _ _ _ _ (pa_more pe_str pa_nil)) pe_int) (pe_op op_rep (@pe_lst _ _ _ _ (pa_more pe_str pa_nil)) pe_int)) (nomark _)) (pe_one (pe_cmpR op_eq (pe_call (ok__law_made T) (hr.mono (by decide)) rfl T.m__law_made T.F__law_made.kp T.b__law_made .nil pass0 (@pa_lits _ _ [.c (.int 16), .c (.int 5), .r [.int 0] 8, .t [.int 0, .int 15], .t [.int 0, .int 7]] rfl)) pe_str (nomark _))))))))))))))), ?_⟩
    refine ⟨_, rfl, zs5, fun L1 n1 => ?_⟩
    refine ⟨To, R, L1, [.int 0, .int 17, .bl true, .non, .str "4"], rfl, hT.same (same_upd n1), upd_same, (hT.fresh n1).1, (hT.fresh n1).2, (by decide : 0 < 5), (by decide : 5 ≤ 1000), fun i1 x1 H1 e1 hT1 k1 => ?_⟩
    have p1 : (fun x => simple x && !isB x 1 16) x1 = true := pick_of (p := fun x => simple x && !isB x 1 16) (by decide) e1
    refine ⟨_, rfl, _, _, rfl, rfl, zs4, fun L2 n2 => ?_⟩
    refine ⟨To, R, L2, [.int 6, .int (0 - 1), .bl true, .non], rfl, hT1.same (same_upd n2), upd_same, (hT1.fresh n2).1, (hT1.fresh n2).2, (by decide : 0 < 4), (by decide : 4 ≤ 1000), fun i2 x2 H2 e2 hT2 k2 => ?_⟩
    have p2 : (fun x => simple x && !isB x 0 5) x2 = true := pick_of (p := fun x => simple x && !isB x 0 5) (by decide) e2
    simp only [Bool.and_eq_true, Bool.not_eq_true'] at p1 p2
    clear k1 k2 n1 n2 e1 e2
    refine ⟨_, rfl, lits_read _ (by decide) fun v3 G3 s3 pb3 => ⟨(by rw [← Paired.length pb3]; decide), fun L3 n3 => ?_⟩⟩
    have hG3 := hT2.same s3
    refine ⟨To, R, L3, v3, rfl, hG3.same (same_upd n3), upd_same, (hG3.fresh n3).1, (hG3.fresh n3).2, (by rw [← Paired.length pb3]; decide), (by rw [← Paired.length pb3]; decide), fun i3 x3 H3 e3 hT3 k3 => ?_⟩
    obtain ⟨l3, el3, hl3⟩ := lits_get pb3 e3
    have q3 : litFoe l3 = true := by
      have hb : ([.l [.int 4], .l [.int 1, .int 0], .c .non, .l [.int 0, .int 1], .l [.bl true]] : List Lit).all litFoe = true := by decide
      exact List.all_eq_true.mp hb l3 (List.mem_of_getElem? el3)
    have a3 := lit_keep hT2 k3 (hl3.same (same_upd n3))
    refine ⟨_, rfl, lits_read _ (by decide) fun v4 G4 s4 pb4 => ⟨(by rw [← Paired.length pb4]; decide), fun L4 n4 => ?_⟩⟩
    have hG4 := hT3.same s4
    refine ⟨To, R, L4, v4, rfl, hG4.same (same_upd n4), upd_same, (hG4.fresh n4).1, (hG4.fresh n4).2, (by rw [← Paired.length pb4]; decide), (by rw [← Paired.length pb4]; decide), fun i4 x4 H4 e4 hT4 k4 => ?_⟩
    obtain ⟨l4, el4, hl4⟩ := lits_get pb4 e4
    have q4 : litSum l4 = true := by
      have hb : ([.l [.int 5], .l [], .c .non, .t [.int 5, .int 5], .l [.int 5, .int 1001], .l [.int 5, .bl true], .r [.int 5] 9, .l [.int 5, .int (0 - 1)]] : List Lit).all litSum = true := by decide
      exact List.all_eq_true.mp hb l4 (List.mem_of_getElem? el4)
    have a4 := lit_keep hT3 k4 (hl4.same (same_upd n4))
    have b3 := lit_keep hT2 k4 ((a3.same s4).same (same_upd n4))
    refine ⟨_, rfl, lits_read _ (by decide) fun v5 G5 s5 pb5 => ⟨(by rw [← Paired.length pb5]; decide), fun L5 n5 => ?_⟩⟩
    have hG5 := hT4.same s5
    refine ⟨To, R, L5, v5, rfl, hG5.same (same_upd n5), upd_same, (hG5.fresh n5).1, (hG5.fresh n5).2, (by rw [← Paired.length pb5]; decide), (by rw [← Paired.length pb5]; decide), fun i5 x5 H5 e5 hT5 k5 => ?_⟩
    obtain ⟨l5, el5, hl5⟩ := lits_get pb5 e5
    have q5 : litRog l5 = true := by
      have hb : ([.l [.int 2], .l [.int 1, .int 0], .c .non, .l [.int 0, .int 0], .l [.str "0"]] : List Lit).all litRog = true := by decide
      exact List.all_eq_true.mp hb l5 (List.mem_of_getElem? el5)
    have c5 := lit_keep hT4 k5 (hl5.same (same_upd n5))
    have c4 := lit_keep hT3 k5 ((a4.same s5).same (same_upd n5))
    have c3 := lit_keep hT2 k5 ((b3.same s5).same (same_upd n5))
    obtain ⟨fr, fn, F5, ff⟩ := lit_foe c3 q3
    have S5 := lit_sum c4 q4
    obtain ⟨rn, R5⟩ := lit_rog c5 q5
    clear c3 c4 c5 a3 a4 b3 q3 q4 q5 hl3 hl4 hl5 el3 el4 el5 e3 e4 e5 k3 k4 k5 n3 n4 n5 pb3 pb4 pb5 hG3 hG4 hG5 s3 s4 s5 hT1 hT2 hT3 hT4 hT
    refine ⟨_, rfl, _, rfl, _, rfl, _, rfl, _, rfl, x1, x2, x4, x3, x5, "number", rfl, .inl ⟨⟨.inl p1.1, .inl p2.1, by rw [p1.2, Bool.false_and]⟩, rfl⟩, fun H6 s6 => ?_⟩
    refine ⟨_, rfl, _, rfl, _, rfl, _, rfl, .int 4, x2, x4, x3, x5, "number", rfl, .inl ⟨⟨.inl rfl, .inl p2.1, by rw [p2.2, Bool.and_false]⟩, rfl⟩, fun H7 s7 => ?_⟩
    refine ⟨zs2, fun A1 nA1 => ?_⟩
    have m1 := (s6.trans s7).trans (same_upd (o := .lst [.str "number", .str "number"]) nA1)
    have hA1 : upd H7 A1 (.lst [.str "number", .str "number"]) A1 = some (.lst [.str "number", .str "number"]) := upd_same
    generalize upd H7 A1 (.lst [.str "number", .str "number"]) = H8 at m1 hA1
    refine ⟨_, rfl, _, rfl, _, rfl, _, rfl, .int 3, .int 1, x4, x3, x5, "houses", rfl, .inr (.inl ⟨⟨3, 1, rfl, rfl, by decide, by decide, .inl (by decide)⟩, rfl⟩), fun H9 s9 => ?_⟩
    refine ⟨_, rfl, _, rfl, _, rfl, .int 4, .int 1, x4, x3, x5, "houses", rfl, hou4 ⟨fr, fn, F5.same (m1.trans s9), .inl ff⟩, fun H10 s10 => ?_⟩
    refine ⟨zs2, fun A2 nA2 => ?_⟩
    have m2 := (s9.trans s10).trans (same_upd (o := .lst [.str "houses", .str "houses"]) nA2)
    refine ⟨A1, A2, _, _, rfl, rfl, m2 _ _ hA1, upd_same, zs4, fun A3 nA3 => ?_⟩
    have m3 := (m1.trans m2).trans (same_upd (o := .lst [.str "number", .str "number", .str "houses", .str "houses"]) nA3)
    have hA3 : upd (upd H10 A2 (.lst [.str "houses", .str "houses"])) A3 (.lst [.str "number", .str "number", .str "houses", .str "houses"]) A3 = some (.lst [.str "number", .str "number", .str "houses", .str "houses"]) := upd_same
    show tSeq _ _ _ _ (upd (upd H10 A2 (.lst [.str "houses", .str "houses"])) A3 (.lst [.str "number", .str "number", .str "houses", .str "houses"]))
    generalize upd (upd H10 A2 (.lst [.str "houses", .str "houses"])) A3 (.lst [.str "number", .str "number", .str "houses", .str "houses"]) = H11 at m3 hA3
    clear m2 m1 hA1
    refine ⟨_, rfl, _, rfl, zs1, fun B1 nB1 => ?_⟩
    have s12 := same_upd (o := .lst [.int 2]) nB1
    refine ⟨_, rfl, .int 4, .int 1, x4, .ref B1, x5, "houses", rfl, hou4 ⟨true, 1, row_of upd_same (by decide) (by decide) rfl, .inr ⟨rfl, by decide, false, S5.same (m3.trans s12), .inl rfl⟩⟩, fun H13 s13 => ?_⟩
    refine ⟨zs2, fun B2 nB2 => ⟨zs1, fun B3 nB3 => ?_⟩⟩
    have s14 := same_upd (o := .lst [.int 5, .int 5]) nB2
    have s15 := same_upd (o := .lst [.int 2]) nB3
    have m4 := s12.trans (s13.trans (s14.trans s15))
    refine ⟨_, rfl, .int 4, .int 1, .ref B2, .ref B3, x5, "houses", rfl, hou4 ⟨true, 1, row_of upd_same (by decide) (by decide) rfl, .inr ⟨rfl, by decide, true, sum_of (s15 _ _ upd_same) (by decide) (by decide) (by decide), .inr ⟨rfl, B2, _, rn, rfl, s15 _ _ upd_same, R5.same (m3.trans m4)⟩⟩⟩, fun H16 s16 => ?_⟩
    refine ⟨zs2, fun A4 nA4 => ?_⟩
    have m5 := (m4.trans s16).trans (same_upd (o := .lst [.str "houses", .str "houses"]) nA4)
    refine ⟨A3, A4, _, _, rfl, rfl, m5 _ _ hA3, upd_same, zs6, fun A5 nA5 => ?_⟩
    have m6 := (m3.trans m5).trans (same_upd (o := .lst (wds.map V.str)) nA5)
    have hA5 : upd (upd H16 A4 (.lst [.str "houses", .str "houses"])) A5 (.lst (wds.map V.str)) A5 = some (.lst (wds.map V.str)) := upd_same
    show tSeq _ _ _ _ (upd (upd H16 A4 (.lst [.str "houses", .str "houses"])) A5 (.lst (wds.map V.str)))
    generalize upd (upd H16 A4 (.lst [.str "houses", .str "houses"])) A5 (.lst (wds.map V.str)) = H17 at m6 hA5
    have hT6 := hT5.same m6
    clear m5 m4 m3 hA3 s12 s13 s14 s15 s16 m6
    refine lits_read _ (by decide) fun v7 G7 s7 pb7 => ?_
    cases pb7 with
    | cons z1 pb7 =>
      cases pb7 with
      | cons z2 pb7 =>
        cases pb7 with
        | cons z3 pb7 =>
          cases pb7 with
          | cons z4 pb7 =>
            cases pb7 with
            | cons z5 pb7 =>
              cases pb7
              cases z1
              cases z2
              refine ⟨_, _, _, _, _, "houses", rfl, .inr (.inl ⟨⟨3, 1, rfl, rfl, by decide, by decide, .inl (by decide)⟩, rfl⟩), fun H18 s18 => ?_⟩
              refine ⟨rfl, _, rfl, ?_⟩
              rw [decide_eq_true rfl]
              refine iteF ?_
              have m8 := s7.trans s18
              have hA6 := m8 _ _ hA5
              have hT7 := hT6.same m8
              clear m8 hA5 hT6 s18 s7 z3 z4 z5
              refine ⟨_, rfl, sz1, fun C1 nC1 => ⟨C1, 2, [.str "number"], rfl, rfl, upd_same, (by decide), (by decide), zs2, fun C2 nC2 => ?_⟩⟩
              have t1 := (same_upd (o := .lst [.str "number"]) nC1).trans (same_upd (o := .lst (List.replicate (2 : Int).toNat [V.str "number"]).flatten) nC2)
              have hC2 : upd (upd H18 C1 (.lst [.str "number"])) C2 (.lst (List.replicate (2 : Int).toNat [V.str "number"]).flatten) C2 = some (.lst [.str "number", .str "number"]) := upd_same
              generalize upd (upd H18 C1 (.lst [.str "number"])) C2 (.lst (List.replicate (2 : Int).toNat [V.str "number"]).flatten) = J1 at t1 hC2
              refine ⟨sz1, fun C3 nC3 => ⟨C3, 4, [.str "houses"], rfl, rfl, upd_same, (by decide), (by decide), zs4, fun C4 nC4 => ?_⟩⟩
              have t2 := (same_upd (o := .lst [.str "houses"]) nC3).trans (same_upd (o := .lst (List.replicate (4 : Int).toNat [V.str "houses"]).flatten) nC4)
              have hC4 : upd (upd J1 C3 (.lst [.str "houses"])) C4 (.lst (List.replicate (4 : Int).toNat [V.str "houses"]).flatten) C4 = some (.lst [.str "houses", .str "houses", .str "houses", .str "houses"]) := upd_same
              generalize upd (upd J1 C3 (.lst [.str "houses"])) C4 (.lst (List.replicate (4 : Int).toNat [V.str "houses"]).flatten) = J2 at t2 hC4
              refine ⟨C2, C4, _, _, rfl, rfl, t2 _ _ hC2, hC4, zs6, fun C5 nC5 => ?_⟩
              have t3 := (t1.trans t2).trans (same_upd (o := .lst ([V.str "number", .str "number"] ++ [V.str "houses", .str "houses", .str "houses", .str "houses"])) nC5)
              refine ⟨.lst (wds.map Dt.str), .lst (wds.map Dt.str), hasD_listS (SqL.of (t3 _ _ hA6)), hasD_listS (SqL.of upd_same), depWd, _, rfl, ?_⟩
              rw [eqWd]
              refine iteT ?_
              have hT8 := hT7.same t3
              refine lits_read _ (by decide) fun v9 G9 s9 pb9 => ?_
              cases pb9 with
              | cons z1 pb9 =>
                cases pb9 with
                | cons z2 pb9 =>
                  cases pb9 with
                  | cons z3 pb9 =>
                    cases pb9 with
                    | cons z4 pb9 =>
                      cases pb9 with
                      | cons z5 pb9 =>
                        cases pb9
                        cases z1
                        cases z2
                        obtain ⟨a1, rfl, _, h1⟩ := z3
                        obtain ⟨a2, rfl, _, h2⟩ := z4
                        obtain ⟨a3, rfl, _, h3⟩ := z5
                        refine ⟨_, _, _, _, _, "told", rfl, .inr (.inr ⟨16, 5, List.replicate 8 0, [.int 0, .int 15], [.int 0, .int 7], ⟨rfl, rfl, by decide, by decide, by decide, a2, a1, a3, rfl, .inr h2, by decide, by decide, by decide, rfl, h1, sum_of h1 (by decide) (by decide) (by decide), rfl, .inr h3, by decide, by decide⟩, rfl⟩), fun Hz sz => ⟨rfl, ?_⟩⟩
                        rw [decide_eq_true rfl]
                        exact k _ ((hT8.same s9).same sz)
theorem badV : ∀ {xs : List V} {i : Nat} {y : V}, (xs.all fun x => simple x && !isB x 0 2) = true → xs[i]? = some y → simple y = true ∧ isB y 0 2 = false := fun h e => by
  have := List.all_eq_true.mp h _ (List.mem_of_getElem? e)
  rw [Bool.and_eq_true, Bool.not_eq_true'] at this
  exact this
set_option maxHeartbeats 0 in
theorem ok__law_bad_ones (T : Txt K mg t) : FnOk P w K mg base CX0 10 t.f__law_bad_ones t.d__law_bad_ones ["_law_world"] (fun vs H Q _ => ∃ W, vs = [.ref W.x] ∧ Wor t H W ∧ ∀ H', Same H H' → Q (.bl true) H') := by
  refine T.F__law_bad_ones.ok sc__law_bad_ones (fun vs H Q E h => ?_) (fun cdv A outer s H vs Q E hr h => ?_)
  · obtain ⟨W, rfl, _⟩ := h
    rfl
  · obtain ⟨W, rfl, w0, k⟩ := h
    refine ⟨_, (@pss_cons _ _ _ _ _ (@ps_for _ _ _ _ _ _ _ _ PassesOwn.never rfl (@pi_list _ _ _ _ (@pe_lst _ _ _ _ (@pa_5 _ _ _ _ _ _ _ _ _ _ _ pe_int (pe_op op_sub pe_int pe_int) pe_bl pe_non pe_str rfl rfl rfl rfl rfl))) (pg_name (i := 1) sc__law_bad_ones.nd rfl (Or.inr rfl)) (@pss_cons _ _ _ _ _ (ps_if (PW.pt (pw_or (pt_cmpR (op_neD hr.units) (pe_call (ok__law_asked T) (hr.mono (by decide)) rfl T.m__law_asked T.F__law_asked.kp T.b__law_asked .nil pass0 (@pa_5 _ _ _ _ _ _ _ _ _ _ _ (pv 0) pe_int (pv 1) (pv 1) pe_int rfl rfl rfl rfl rfl)) (@pe_tup _ _ _ _ _ (@pa_2 _ _ _ _ _ pe_str (pv 1) rfl rfl)) (nomark _)) (pw_or1 (pt_cmpR (op_neD hr.units) (pe_call (ok__law_asked T) (hr.mono (by decide)) rfl T.m__law_asked T.F__law_asked.kp T.b__law_asked .nil pass0 (@pa_5 _ _ _ _ _ _ _ _ _ _ _ (pv 0) pe_int pe_int (pv 1) pe_int rfl rfl rfl rfl rfl)) (@pe_tup _ _ _ _ _ (@pa_2 _ _ _ _ _ pe_str (pv 1) rfl rfl)) (nomark _))))) (@pss_one _ _ _ (ps_ret pe_bl)) pss_nil)
      (@pss_one _ _ _ (ps_if (PW.pt (pw_or (pt_cmpR (op_neD hr.units) (pe_call (ok__law_asked T) (hr.mono (by decide)) rfl T.m__law_asked T.F__law_asked.kp T.b__law_asked .nil pass0 (@pa_5 _ _ _ _ _ _ _ _ _ _ _ (pv 0) pe_int (pv 1) pe_int pe_int rfl rfl rfl rfl rfl)) (@pe_tup _ _ _ _ _ (@pa_2 _ _ _ _ _ pe_str (pv 1) rfl rfl)) (nomark _)) (pw_or1 (pt_cmpR (op_neD hr.units) (pe_call (ok__law_asked T) (hr.mono (by decide)) rfl T.m__law_asked T.F__law_asked.kp T.b__law_asked .nil pass0 (@pa_5 _ _ _ _ _ _ _ _ _ _ _ (pv 0) pe_int pe_int (pv 1) pe_int rfl rfl rfl rfl rfl)) (@pe_tup _ _ _ _ _ (@pa_2 _ _ _ _ _ pe_str (pv 1) rfl rfl)) (nomark _))))) (@pss_one _ _ _ (ps_ret pe_bl)) pss_nil))) (by intro _; rfl))
      (@pss_cons _ _ _ _ _ (@ps_for _ _ _ _ _ _ _ _ PassesOwn.never rfl (@pi_list _ _ _ _ (@pe_lst _ _ _ _ (@pa_6 _ _ _ _ _ _ _ _ _ _ _ _ _ pe_int (pe_op op_sub pe_int pe_int) pe_bl pe_non pe_str pe_int rfl rfl rfl rfl rfl rfl))) (pg_name (i := 1) sc__law_bad_ones.nd rfl (Or.inr rfl)) (@pss_cons _ _ _ _ _ (ps_if (pt_cmpR (op_neD hr.units) (pe_lcomp (N' := ["_law_kind", "_law_world", "_law_odd"]) (ix := [none, some 0, some 1]) (compOk_is (by kernel_rfl)) rfl (@pi_list _ _ _ _ (@pe_lst _ _ _ _ (@pa_2 _ _ _ _ _ pe_int pe_int rfl rfl))) (fun _ _ _ _ => (pg_name (i := 0) nd_5 rfl (Or.inl rfl) (.inr rfl))) (fun _ _ _ _ => pif_nil) (fun _ _ _ _ => (pe_call (ok__law_asked T) (hr.mono (by decide)) rfl T.m__law_asked T.F__law_asked.kp T.b__law_asked .nil pass0 (@pa_5 _ _ _ _ _ _ _ _ _ _ _ (pv 1) (pv 0) (pv 2) pe_int pe_int rfl rfl rfl rfl rfl)))) (pe_op op_rep (@pe_lst _ _ _ _ (pa_more (@pe_tup _ _ _ _ _ (@pa_2 _ _ _ _ _ pe_str (pv 1) rfl rfl)) pa_nil)) pe_int) (nomark _)) (@pss_one _ _ _ (ps_ret pe_bl)) pss_nil)
      (@pss_cons _ _ _ _ _ (ps_if (pt_cmpR (op_neD hr.units) (pe_call (ok__law_asked T) (hr.mono (by decide)) rfl T.m__law_asked T.F__law_asked.kp T.b__law_asked .nil pass0 (@pa_5 _ _ _ _ _ _ _ _ _ _ _ (pv 0) pe_int (@pe_tup _ _ _ _ _ (@pa_4 _ _ _ _ _ _ _ _ _ pe_int pe_int pe_int pe_int rfl rfl rfl rfl)) (pv 1) pe_int rfl rfl rfl rfl rfl)) (@pe_tup _ _ _ _ _ (@pa_2 _ _ _ _ _ pe_str (pv 1) rfl rfl)) (nomark _)) (@pss_one _ _ _ (ps_ret pe_bl)) pss_nil)
      (@pss_one _ _ _ (ps_if (pt_cmpR (op_neD hr.units) (pe_call (ok__law_asked T) (hr.mono (by decide)) rfl T.m__law_asked T.F__law_asked.kp T.b__law_asked .nil pass0 (@pa_5 _ _ _ _ _ _ _ _ _ _ _ (pv 0) pe_int pe_non (pv 1) pe_int rfl rfl rfl rfl rfl)) (@pe_tup _ _ _ _ _ (@pa_2 _ _ _ _ _ pe_str (pv 1) rfl rfl)) (nomark _)) (@pss_one _ _ _ (ps_ret pe_bl)) pss_nil)))) (by intro _; rfl))
      (@pss_one _ _ _ (ps_ret pe_bl)))), ?_⟩
    refine ⟨_, _, rfl, rfl, zs5, fun L1 n1 => ?_⟩
    have s1 := same_upd (o := .lst [.int 3, .int (0 - 1), .bl true, .non, .str "0"]) n1
    have hL1 : upd H L1 (.lst [.int 3, .int (0 - 1), .bl true, .non, .str "0"]) L1 = some (.lst [.int 3, .int (0 - 1), .bl true, .non, .str "0"]) := upd_same
    generalize upd H L1 (.lst [.int 3, .int (0 - 1), .bl true, .non, .str "0"]) = H1 at s1 hL1
    have w1 := w0.same s1
    refine ⟨L1, rfl, ⟨_, SqL.of hL1⟩, for_list (K := K) (a := L1) (xs := [.int 3, .int (0 - 1), .bl true, .non, .str "0"]) (fun i σ H' => ∃ v, σ = [some (.ref W.x), v] ∧ Same H1 H') ⟨none, rfl, Same.refl _⟩ (fun i σ H' _ ⟨_, _, s'⟩ => SqL.of (s' _ _ hL1)) ?_ ?_⟩
    · rintro i y σ H2 hy ⟨v, rfl, s2⟩
      obtain ⟨sy, by_⟩ := badV (by decide) hy
      have w2 := w1.same s2
      refine ⟨_, rfl, _, rfl, _, rfl, .ref W.x, 0, y, y, .int 0, rfl, .inl ⟨_, d_askP w2 sy sy rfl by_, fun r1 H3 _ s3 h3 => ?_⟩⟩
      refine ⟨_, rfl, zs2, fun q1 nq1 => ?_⟩
      have t1 := same_upd (o := .tup [.str "purse", y]) nq1
      refine ⟨purD "purse" y, purD "purse" y, hasD_pur (t1 _ _ h3) sy, hasD_pur upd_same sy, dep_pur _ _, _, rfl, ?_⟩
      rw [eqD_pur]
      refine iteF ?_
      have s4 := s3.trans t1
      have w4 := w2.same s4
      refine ⟨_, rfl, _, rfl, .ref W.x, 0, .int 0, y, .int 0, rfl, .inl ⟨_, d_askG w4 rfl sy rfl rfl by_, fun r1 H5 _ s5 h5 => ?_⟩⟩
      refine ⟨_, rfl, zs2, fun q1 nq1 => ?_⟩
      have t2 := same_upd (o := .tup [.str "purse", y]) nq1
      refine ⟨purD "purse" y, purD "purse" y, hasD_pur (t2 _ _ h5) sy, hasD_pur upd_same sy, dep_pur _ _, _, rfl, ?_⟩
      rw [eqD_pur]
      refine iteF ?_
      have s6 := s5.trans t2
      have w6 := w4.same s6
      refine ⟨_, rfl, _, rfl, .ref W.x, 7, y, .int 0, .int 0, rfl, .inl ⟨_, d_next w6 sy by_, fun r1 H7 _ s7 h7 => ?_⟩⟩
      refine ⟨_, rfl, zs2, fun q1 nq1 => ?_⟩
      have t3 := same_upd (o := .tup [.str "purse", y]) nq1
      refine ⟨purD "purse" y, purD "purse" y, hasD_pur (t3 _ _ h7) sy, hasD_pur upd_same sy, dep_pur _ _, _, rfl, ?_⟩
      rw [eqD_pur]
      refine iteF ?_
      have s8 := s7.trans t3
      have w8 := w6.same s8
      refine ⟨_, rfl, _, rfl, .ref W.x, 6, .int 0, y, .int 0, rfl, .inl ⟨_, d_votP w8 sy by_, fun r1 H9 _ s9 h9 => ?_⟩⟩
      refine ⟨_, rfl, zs2, fun q1 nq1 => ?_⟩
      have t4 := same_upd (o := .tup [.str "purse", y]) nq1
      refine ⟨purD "purse" y, purD "purse" y, hasD_pur (t4 _ _ h9) sy, hasD_pur upd_same sy, dep_pur _ _, _, rfl, ?_⟩
      rw [eqD_pur]
      exact iteF ⟨_, rfl, (((s2.trans s4).trans s6).trans s8).trans (s9.trans t4)⟩
    rintro σ H2 ⟨v, rfl, s2⟩
    have s02 := s1.trans s2
    have w2 := w0.same s02
    clear w1 hL1 s1 s2
    refine ⟨_, _, rfl, rfl, zs6, fun L2 n2 => ?_⟩
    have s3 := same_upd (o := .lst [.int 4, .int (0 - 1), .bl true, .non, .str "0", .int 3]) n2
    have hL2 : upd H2 L2 (.lst [.int 4, .int (0 - 1), .bl true, .non, .str "0", .int 3]) L2 = some (.lst [.int 4, .int (0 - 1), .bl true, .non, .str "0", .int 3]) := upd_same
    generalize upd H2 L2 (.lst [.int 4, .int (0 - 1), .bl true, .non, .str "0", .int 3]) = H3 at s3 hL2
    have w3 := w2.same s3
    refine ⟨L2, rfl, ⟨_, SqL.of hL2⟩, for_list (K := K) (a := L2) (xs := [.int 4, .int (0 - 1), .bl true, .non, .str "0", .int 3]) (fun i σ H' => ∃ v, σ = [some (.ref W.x), v] ∧ Same H3 H') ⟨v, rfl, Same.refl _⟩ (fun i σ H' _ ⟨_, _, s'⟩ => SqL.of (s' _ _ hL2)) ?_ ?_⟩
    · rintro i y σ H4 hy ⟨v, rfl, s4⟩
      obtain ⟨sy, by_⟩ := badV (by decide) hy
      have w4 := w3.same s4
      refine ⟨zs2, fun L3 n3 => ?_⟩
      have t5 := same_upd (o := .lst [.int 5, .int 6]) n3
      have hL3 : upd H4 L3 (.lst [.int 5, .int 6]) L3 = some (.lst [.int 5, .int 6]) := upd_same
      generalize upd H4 L3 (.lst [.int 5, .int 6]) = H5 at t5 hL3
      have w5 := w4.same t5
      refine ⟨L3, rfl, ⟨_, SqL.of hL3⟩, lc_list (K := K) (a := L3) (xs := [.int 5, .int 6]) (fun i' ys σ H' => ∃ v0, σ = [v0, some (.ref W.x), some y] ∧ Same H5 H' ∧ ys.length = i' ∧ Paired (fun (p : Str × V) x => simple p.2 = true ∧ ∃ r, x = .ref r ∧ H' r = some (.tup [.str p.1, p.2])) (List.replicate i' ("house", y)) ys) ⟨none, rfl, Same.refl _, rfl, .nil⟩ ?_ ?_ ?_⟩
      · rintro i' ys σ H' hi ⟨v0, rfl, s', l', _⟩
        exact ⟨SqL.of (s' _ _ hL3), len1000 (by rw [l']; have : i' ≤ 2 := hi; omega)⟩
      · rintro i' z ys σ H' hz ⟨v0, rfl, s', l', pr⟩
        dsimp only [gName, tYes]
        rw [if_pos rfl]
        have w6 := w5.same s'
        have fin : ∀ kd, z = .int kd → DidR t H' (.ref W.x) kd y (.int 9) (.int 0) (.hou y) → tCall (sp_asked t) [] E0 (tCons (tVar 1) (tCons (tVar 0) (tCons (tVar 2) (tCons (tC (V.int 9)) (tCons (tC (V.int 0)) tNil))))) ([v0, some (.ref W.x), some y].set 0 (some z)) H' (fun y_1 H4 => ∃ v0, ([v0, some (.ref W.x), some y].set 0 (some z) : St) = [v0, some (.ref W.x), some y] ∧ Same H5 H4 ∧ (ys ++ [y_1]).length = i' + 1 ∧ Paired (fun (p : Str × V) x => simple p.2 = true ∧ ∃ r, x = .ref r ∧ H4 r = some (.tup [.str p.1, p.2])) (List.replicate (i' + 1) ("house", y)) (ys ++ [y_1])) := by
          rintro kd rfl hd
          refine ⟨_, rfl, _, rfl, _, rfl, .ref W.x, kd, y, .int 9, .int 0, rfl, .inl ⟨_, hd, fun r1 H7 _ s7 h7 => ⟨_, rfl, s'.trans s7, by rw [List.length_append, l']; rfl, ?_⟩⟩⟩
          rw [List.replicate_succ']
          exact paired_app (Paired.mapP pr fun _ _ ⟨a, r, e, h⟩ => ⟨a, r, e, s7 _ _ h⟩) ⟨sy, r1, rfl, h7⟩
        have hz2 : z ∈ [V.int 5, .int 6] := List.mem_of_getElem? hz
        rcases List.mem_cons.mp hz2 with e | e
        · exact fin 5 e (d_sum w6 sy by_)
        · exact fin 6 (List.mem_singleton.mp e) (d_votH w6 sy rfl by_)
      · rintro ys σ H' ⟨v0, rfl, s', l', pr⟩ L4 n4
        have t6 := same_upd (o := .lst ys) n4
        have hL4 : upd H' L4 (.lst ys) L4 = some (.lst ys) := upd_same
        have pr6 : Paired (fun (p : Str × V) x => simple p.2 = true ∧ ∃ r, x = .ref r ∧ upd H' L4 (.lst ys) r = some (.tup [.str p.1, p.2])) (List.replicate 2 ("house", y)) ys := Paired.mapP pr fun _ _ ⟨a, r, e, h⟩ => ⟨a, r, e, t6 _ _ h⟩
        generalize upd H' L4 (.lst ys) = H6 at t6 hL4 pr6
        have s46 := (t5.trans s').trans t6
        refine ⟨_, rfl, zs2, fun q1 nq1 => ⟨sz1, fun q2 nq2 => ⟨q2, 2, [.ref q1], rfl, rfl, upd_same, (by decide), (by decide), zs2, fun q3 nq3 => ?_⟩⟩⟩
        have u1 := same_upd (o := .tup [.str "house", y]) nq1
        have u2 := same_upd (o := .lst [.ref q1]) nq2
        have u3 := same_upd (o := .lst (List.replicate (2 : Int).toNat [V.ref q1]).flatten) nq3
        have hq1 := u3 _ _ (u2 _ _ (upd_same (H := H6) (a := q1) (o := .tup [.str "house", y])))
        have uu := (u1.trans u2).trans u3
        have pr7 : Paired (fun (p : Str × V) x => simple p.2 = true ∧ ∃ r, x = .ref r ∧ upd (upd (upd H6 q1 (.tup [.str "house", y])) q2 (.lst [.ref q1])) q3 (.lst (List.replicate (2 : Int).toNat [V.ref q1]).flatten) r = some (.tup [.str p.1, p.2])) (List.replicate 2 ("house", y)) ys := Paired.mapP pr6 fun _ _ ⟨a, r, e, h⟩ => ⟨a, r, e, uu _ _ h⟩
        refine ⟨.lst (purDs (List.replicate 2 ("house", y))), .lst (purDs (List.replicate 2 ("house", y))), hasD_purs (uu _ _ hL4) pr7, hasD_purs upd_same (.cons ⟨sy, q1, rfl, hq1⟩ (.cons ⟨sy, q1, rfl, hq1⟩ .nil)), dep_purs _, _, rfl, ?_⟩
        rw [eqD_purs]
        refine iteF ?_
        have s48 := s46.trans uu
        have w8 := w4.same s48
        generalize upd (upd (upd H6 q1 (.tup [.str "house", y])) q2 (.lst [.ref q1])) q3 (.lst (List.replicate (2 : Int).toNat [V.ref q1]).flatten) = H8 at s48 w8
        clear hq1 pr7 uu u1 u2 u3 pr6 hL4 pr t6 s46 s'
        refine ⟨_, rfl, zs4, fun qo nqo => ?_⟩
        have u4 := same_upd (o := .tup (ordV ⟨2, 0, 0, 1⟩)) nqo
        have w9 := w8.same u4
        refine ⟨_, rfl, .ref W.x, 1, .ref qo, y, .int 0, rfl, .inl ⟨_, d_cheH (ou := ⟨2, 0, 0, 1⟩) w9 sy upd_same (ord_tup upd_same (fun z hz => List.all_eq_true.mp (by decide) z hz) (by decide)) (by decide) by_, fun r1 H9 _ s9 h9 => ?_⟩⟩
        refine ⟨_, rfl, zs2, fun q1 nq1 => ?_⟩
        have t9 := same_upd (o := .tup [.str "house", y]) nq1
        refine ⟨purD "house" y, purD "house" y, hasD_pur (t9 _ _ h9) sy, hasD_pur upd_same sy, dep_pur _ _, _, rfl, ?_⟩
        rw [eqD_pur]
        refine iteF ?_
        have s10 := (u4.trans s9).trans t9
        have w10 := w8.same s10
        refine ⟨_, rfl, _, rfl, .ref W.x, 3, .non, y, .int 0, rfl, .inl ⟨_, d_showH w10 sy by_, fun r1 H11 _ s11 h11 => ?_⟩⟩
        refine ⟨_, rfl, zs2, fun q1 nq1 => ?_⟩
        have t11 := same_upd (o := .tup [.str "house", y]) nq1
        refine ⟨purD "house" y, purD "house" y, hasD_pur (t11 _ _ h11) sy, hasD_pur upd_same sy, dep_pur _ _, _, rfl, ?_⟩
        rw [eqD_pur]
        exact iteF ⟨_, rfl, ((s4.trans s48).trans s10).trans (s11.trans t11)⟩
    rintro σ H4 ⟨v, rfl, s4⟩
    exact k _ ((s02.trans s3).trans s4)
def sp_law (K : PySem.W.Frag) : Sp := fun vs H Q _ => ∃ (a : Addr) (ns : List Int), vs = [.ref a] ∧ SqL K H a (ns.map V.int) ∧ ns.length ≤ 63 ∧ ∀ H', Q (.bl true) H'
theorem litsBad {G H : Hp} {ls : List Lit} {vs : List V} {i : Nat} {y : V} (p : Paired (LitAt G H) ls vs) (e : ls.all (litBad 3) = true) (h : vs[i]? = some y) : OrdIs H 3 y false := lits_bad p e y (List.mem_of_getElem? h)
def purs3 : List (Str × V) := [("purse", .int 0), ("purse", .int 2), ("purse", .int 2)]
def ords3 : List Str := ["order", "order", "order"]
theorem eqO3 : eqD (.lst (ords3.map Dt.str)) (.lst (ords3.map Dt.str)) = true := by
  simp [eqD, eqDs, ords3]
theorem depO3 : depD (.lst (ords3.map Dt.str)) ≤ 60 := by
  simp [depD, depDs, ords3]
def paps2 : List Str := ["paper", "paper"]
theorem eqP2 : eqD (.lst (paps2.map Dt.str)) (.lst (paps2.map Dt.str)) = true := by
  simp [eqD, eqDs, paps2]
theorem depP2 : depD (.lst (paps2.map Dt.str)) ≤ 60 := by
  simp [depD, depDs, paps2]
set_option maxHeartbeats 0 in
theorem ok_law (T : Txt K mg t) : FnOk P w K mg base CX0 12 t.f_law t.d_law ["_law_script"] (sp_law K) := by
  refine (T.F_law.ok (k := 11) sc_law (fun vs H Q E h => ?_) (fun cdv A outer s H vs Q E hr h => ?_))
  · obtain ⟨a, ns, rfl, _⟩ := h
    rfl
  · obtain ⟨a, ns, rfl, hS, hn, k⟩ := h
    refine ⟨_, (@pss_cons _ _ _ _ _ (ps_set (i := 1) sc_law.nd rfl (Or.inl rfl) (pe_call (ok__law_town T) (hr.mono (by decide)) rfl T.m__law_town T.F__law_town.kp T.b__law_town .nil pass0 (pa_more (pv 0) pa_nil)))
      (@pss_cons _ _ _ _ _ (ps_if (pt_not (pt_val (pe_call (ok__law_not_made T) (hr.mono (by decide)) rfl T.m__law_not_made T.F__law_not_made.kp T.b__law_not_made .nil pass0 (pa_more (pv 1) pa_nil)))) (@pss_one _ _ _ (ps_ret pe_bl)) pss_nil)
      (@pss_cons _ _ _ _ _ (ps_set (i := 2) sc_law.nd rfl (Or.inr rfl) (pe_makeK T.mk_World (ok_World___init__ T) (hr.mono (by decide)) rfl T.m_World T.bk0_World___init__ pass2_0 (pa_more pe_int pa_nil) (pk_cons pe_int (pk_cons (@pe_lst _ _ _ _ (@pa_3 _ _ _ _ _ _ _ pe_int pe_int pe_int rfl rfl rfl)) (pk_cons (@pe_lst _ _ _ _ (pa_more pe_int pa_nil)) (pk_cons (@pe_lst _ _ _ _ (pa_more pe_int pa_nil)) pk_nil))))))
      (@pss_cons _ _ _ _ _ (ps_if (pt_not (pt_val (pe_call (ok__law_bad_ones T) (hr.mono (by decide)) rfl T.m__law_bad_ones T.F__law_bad_ones.kp T.b__law_bad_ones .nil pass0 (pa_more (pv 2) pa_nil)))) (@pss_one _ _ _ (ps_ret pe_bl)) pss_nil)
      (@pss_cons _ _ _ _ _ (ps_if (pt_cmpR (op_neD hr.units) (pe_op op_cat (pe_lcomp (N' := ["_law_k", "_law_world"]) (ix := [none, some 2]) (compOk_is (by kernel_rfl)) rfl (@pi_list _ _ _ _ (@pe_lst _ _ _ _ (@pa_2 _ _ _ _ _ pe_int pe_int rfl rfl))) (fun _ _ _ _ => (pg_name (i := 0) nd_7 rfl (Or.inl rfl) (.inr rfl))) (fun _ _ _ _ => pif_nil) (fun _ _ _ _ => (pe_call (ok__law_asked T) (hr.mono (by decide)) rfl T.m__law_asked T.F__law_asked.kp T.b__law_asked .nil pass0 (@pa_5 _ _ _ _ _ _ _ _ _ _ _ (pv 1) pe_int (pv 0) (pv 0) pe_int rfl rfl rfl rfl rfl)))) (@pe_lst _ _ _ _ (pa_more (pe_call (ok__law_asked T) (hr.mono (by decide)) rfl T.m__law_asked T.F__law_asked.kp T.b__law_asked .nil pass0 (@pa_5 _ _ _ _ _ _ _ _ _ _ _ (pv 2) pe_int pe_int pe_int pe_int rfl rfl rfl rfl rfl)) pa_nil))) (@pe_lst _ _ _ _ (@pa_lits _ _ [.t [.str "purse", .int 0], .t [.str "purse", .int 2], .t [.str "purse", .int 2]] rfl)) (nomark _)) (@pss_one _ _ _ (ps_ret pe_bl)) pss_nil)
      (@pss_cons _ _ _ _ _ (@ps_for _ _ _ _ _ _ _ _ PassesOwn.never rfl (@pi_list _ _ _ _ (@pe_lst _ _ _ _ (@pa_5 _ _ _ _ _ _ _ _ _ _ _ pe_int pe_int pe_bl pe_non pe_str rfl rfl rfl rfl rfl))) (pg_name (i := 3) sc_law.nd rfl (Or.inl rfl)) (@pss_one _ _ _ (ps_if (pt_cmpR op_ne (pe_call (ok__law_asked T) (hr.mono (by decide)) rfl T.m__law_asked T.F__law_asked.kp T.b__law_asked .nil pass0 (@pa_5 _ _ _ _ _ _ _ _ _ _ _ (pv 2) pe_int pe_int pe_int (pv 3) rfl rfl rfl rfl rfl)) pe_str (nomark _)) (@pss_one _ _ _ (ps_ret pe_bl)) pss_nil)) (by intro _; rfl))
      (@pss_cons _ _ _ _ _ (@ps_for _ _ _ _ _ _ _ _ PassesOwn.never rfl (@pi_list _ _ _ _ (@pe_lst _ _ _ _ (@pa_4 _ _ _ _ _ _ _ _ _ pe_int pe_int pe_bl pe_non rfl rfl rfl rfl))) (pg_name (i := 3) sc_law.nd rfl (Or.inl rfl)) (@pss_one _ _ _ (ps_if (pt_cmpR (op_neD hr.units) (pe_call (ok__law_asked T) (hr.mono (by decide)) rfl T.m__law_asked T.F__law_asked.kp T.b__law_asked .nil pass0 (@pa_5 _ _ _ _ _ _ _ _ _ _ _ (pv 2) pe_int (pv 3) pe_non pe_int rfl rfl rfl rfl rfl)) (@pe_tup _ _ _ _ _ (@pa_2 _ _ _ _ _ pe_str (pv 3) rfl rfl)) (nomark _)) (@pss_one _ _ _ (ps_ret pe_bl)) pss_nil)) (by intro _; rfl))
      (@pss_cons _ _ _ _ _ (@ps_for _ _ _ _ _ _ _ _ PassesOwn.never rfl (@pi_list _ _ _ _ (@pe_lst _ _ _ _ (@pa_lits _ _ [.c (.non), .t [.int 0, .int 0, .int 0, .int 1], .t [.int 3, .int 0, .int 1, .int 1], .l [.int 2, .int 0, .int 0, .int 1], .t [.int 2, .int 0, .int 0, .int 0]] rfl))) (pg_name (i := 3) sc_law.nd rfl (Or.inl rfl)) (@pss_one _ _ _ (ps_if (pt_cmpR (op_neD hr.units) (@pe_lst _ _ _ _ (@pa_3 _ _ _ _ _ _ _ (pe_call (ok__law_asked T) (hr.mono (by decide)) rfl T.m__law_asked T.F__law_asked.kp T.b__law_asked .nil pass0 (@pa_5 _ _ _ _ _ _ _ _ _ _ _ (pv 2) pe_int (pv 3) pe_int pe_int rfl rfl rfl rfl rfl)) (pe_call (ok__law_asked T) (hr.mono (by decide)) rfl T.m__law_asked T.F__law_asked.kp T.b__law_asked .nil pass0 (@pa_5 _ _ _ _ _ _ _ _ _ _ _ (pv 2) pe_int pe_int (pv 3) pe_int rfl rfl rfl rfl rfl)) (pe_call (ok__law_asked T) (hr.mono (by decide)) rfl T.m__law_asked T.F__law_asked.kp T.b__law_asked .nil pass0 (@pa_5 _ _ _ _ _ _ _ _ _ _ _ (pv 2) pe_int (pv 3) pe_int pe_int rfl rfl rfl rfl rfl)) rfl rfl rfl)) (pe_op op_rep (@pe_lst _ _ _ _ (pa_more pe_str pa_nil)) pe_int) (nomark _)) (@pss_one _ _ _ (ps_ret pe_bl)) pss_nil)) (by intro _; rfl))
      (@pss_cons _ _ _ _ _ (ps_if (PW.pt (pw_or (pt_cmpR (op_neD hr.units) (pe_call (ok__law_asked T) (hr.mono (by decide)) rfl T.m__law_asked T.F__law_asked.kp T.b__law_asked .nil pass0 (@pa_5 _ _ _ _ _ _ _ _ _ _ _ (pv 2) pe_int (@pe_tup _ _ _ _ _ (@pa_4 _ _ _ _ _ _ _ _ _ pe_int pe_int pe_int pe_int rfl rfl rfl rfl)) pe_int pe_int rfl rfl rfl rfl rfl)) (@pe_tup _ _ _ _ _ (@pa_2 _ _ _ _ _ pe_str pe_int rfl rfl)) (nomark _)) (pw_or1 (pt_cmpR (op_neD hr.units) (pe_call (ok__law_asked T) (hr.mono (by decide)) rfl T.m__law_asked T.F__law_asked.kp T.b__law_asked .nil pass0 (@pa_5 _ _ _ _ _ _ _ _ _ _ _ (pv 2) pe_int pe_int (@pe_tup _ _ _ _ _ (@pa_4 _ _ _ _ _ _ _ _ _ pe_int pe_int pe_int pe_int rfl rfl rfl rfl)) pe_int rfl rfl rfl rfl rfl)) (@pe_tup _ _ _ _ _ (@pa_2 _ _ _ _ _ pe_str pe_int rfl rfl)) (nomark _))))) (@pss_one _ _ _ (ps_ret pe_bl)) pss_nil)
      (@pss_cons _ _ _ _ _ (ps_if (PW.pt (pw_or (pt_cmpR op_ne (pe_call (ok__law_asked T) (hr.mono (by decide)) rfl T.m__law_asked T.F__law_asked.kp T.b__law_asked .nil pass0 (@pa_5 _ _ _ _ _ _ _ _ _ _ _ (pv 2) pe_int pe_int pe_int pe_int rfl rfl rfl rfl rfl)) pe_str (nomark _)) (pw_or1 (pt_cmpR op_ne (pe_call (ok__law_asked T) (hr.mono (by decide)) rfl T.m__law_asked T.F__law_asked.kp T.b__law_asked .nil pass0 (@pa_5 _ _ _ _ _ _ _ _ _ _ _ (pv 2) pe_int (pe_call (ok__law_pick T) (hr.mono (by decide)) rfl T.m__law_pick T.F__law_pick.kp T.b__law_pick .nil pass0 (@pa_2 _ _ _ _ _ (pv 1) (@pe_lst _ _ _ _ (@pa_3 _ _ _ _ _ _ _ pe_int pe_non pe_bl rfl rfl rfl)) rfl rfl)) pe_int pe_int rfl rfl rfl rfl rfl)) pe_str (nomark _))))) (@pss_one _ _ _ (ps_ret pe_bl)) pss_nil)
      (@pss_cons _ _ _ _ _ (ps_if (PW.pt (pw_or (pt_cmpR (op_neD hr.units) (pe_lcomp (N' := ["_law_kind", "_law_world"]) (ix := [none, some 2]) (compOk_is (by kernel_rfl)) rfl (@pi_list _ _ _ _ (@pe_lst _ _ _ _ (@pa_2 _ _ _ _ _ pe_int pe_int rfl rfl))) (fun _ _ _ _ => (pg_name (i := 0) nd_6 rfl (Or.inl rfl) (.inr rfl))) (fun _ _ _ _ => pif_nil) (fun _ _ _ _ => (pe_call (ok__law_asked T) (hr.mono (by decide)) rfl T.m__law_asked T.F__law_asked.kp T.b__law_asked .nil pass0 (@pa_5 _ _ _ _ _ _ _ _ _ _ _ (pv 1) (pv 0) (@pe_tup _ _ _ _ _ (@pa_4 _ _ _ _ _ _ _ _ _ pe_int pe_int pe_int pe_int rfl rfl rfl rfl)) pe_int pe_int rfl rfl rfl rfl rfl)))) (pe_op op_rep (@pe_lst _ _ _ _ (pa_more pe_str pa_nil)) pe_int) (nomark _)) (pw_or1 (pt_cmpR (op_neD hr.units) (pe_meth0 (pv 2) T.cl_World T.mt_World_letters (ok_World_letters T) (hr.mono (by decide)) T.b_World_letters .nil pass0) (@pe_lst _ _ _ _ pa_nil) (nomark _))))) (@pss_one _ _ _ (ps_ret pe_bl)) pss_nil)
      (@pss_one _ _ _ (ps_ret (pe_and (pe_cmpR op_eq (pe_call (ok__law_asked T) (hr.mono (by decide)) rfl T.m__law_asked T.F__law_asked.kp T.b__law_asked .nil pass0 (@pa_5 _ _ _ _ _ _ _ _ _ _ _ (pv 2) pe_int pe_int pe_int pe_int rfl rfl rfl rfl rfl)) pe_str (nomark _)) (pe_and (pe_cmpR op_eq (pe_call (ok__law_asked T) (hr.mono (by decide)) rfl T.m__law_asked T.F__law_asked.kp T.b__law_asked .nil pass0 (@pa_5 _ _ _ _ _ _ _ _ _ _ _ (pv 2) pe_int pe_int pe_int pe_int rfl rfl rfl rfl rfl)) pe_str (nomark _)) (pe_one (pe_cmpR op_eq (pe_callB call_len_seq rfl T.n_len boot_len (pa_more (pe_meth0 (pv 2) T.cl_World T.mt_World_letters (ok_World_letters T) (hr.mono (by decide)) T.b_World_letters .nil pass0) pa_nil)) pe_int (nomark _)))))))))))))))))), ?_⟩
    refine ⟨_, rfl, a, ns, rfl, hS, fun To R H1 nT nR s1 hT => ?_⟩
    refine ⟨_, rfl, To, R, rfl, hT, fun H2 hT2 => ⟨_, rfl, iteF ?_⟩⟩
    clear s1 nT nR hT
    refine ⟨zs3, fun S nS => ⟨sz1, fun F nF => ⟨sz1, fun C nC => fun x dx nx ndx nex => ?_⟩⟩⟩
    have u1 := same_upd (o := .lst [.int 10, .int 0, .int 5]) nS
    have u2 := same_upd (o := .lst [.int 3]) nF
    have u3 := same_upd (o := .lst [.int 2]) nC
    have hS3 := u3 _ _ (u2 _ _ (upd_same (H := H2) (a := S) (o := .lst [.int 10, .int 0, .int 5])))
    have hF3 := u3 _ _ (upd_same (H := upd H2 S (.lst [.int 10, .int 0, .int 5])) (a := F) (o := .lst [.int 3]))
    have hC3 := upd_same (H := upd (upd H2 S (.lst [.int 10, .int 0, .int 5])) F (.lst [.int 3])) (a := C) (o := .lst [.int 2])
    have hT3 := ((hT2.same u1).same u2).same u3
    generalize upd (upd (upd H2 S (.lst [.int 10, .int 0, .int 5])) F (.lst [.int 3])) C (.lst [.int 2]) = H3 at hS3 hF3 hC3 hT3 nx ndx
    have sj : Same H3 (upd (upd H3 dx (.own x)) x (.ins t.a_World dx [])) := fun b u e => by
      rw [upd_ne (ne_of_none e nx), upd_ne (ne_of_none e ndx)]
      exact e
    have hT4 := hT3.same sj
    refine ⟨x, dx, .int 4, .int 1, .ref S, .ref F, .ref C, rfl, upd_same, .inr (.inr ⟨4, 1, [10, 0, 5], [.int 3], [.int 2], ⟨rfl, rfl, by decide, by decide, by decide, F, S, C, rfl, .inl (sj _ _ hF3), by decide, by decide, by decide, rfl, sj _ _ hS3, sum_of (sj _ _ hS3) (by decide) (by decide) (by decide), rfl, .inl (sj _ _ hC3), by decide, by decide⟩, fun W H5 fr O ap ex en el ec ens ek er een eo => ⟨rfl, ?_⟩⟩)⟩
    have old : Town To R W.old := by rw [eo]; exact hT4
    have hT5 : Town To R H5 := by
      obtain ⟨row, c, t1, t2, t3⟩ := hT4
      exact ⟨row, c, fr _ _ t1 (ne_of t1 upd_same (by intro z; cases z)), fr _ _ t2 (ne_of t2 upd_same (by intro z; cases z)), t3⟩
    have w5 : Wor t H5 W := ⟨O, en, el, ec, ens, ek, er, een⟩
    clear fr sj hS3 hF3 hC3 u1 u2 u3 nS nF nC hT3 hT4 nx ndx nex hT2 en el ec ens ek er een eo O
    subst ex
    have hno : ∀ {m : Str}, (¬ m = "on_way" ∧ ¬ m = "asked" ∧ ¬ m = "board" ∧ ¬ m = "keepers" ∧ ¬ m = "cheating" ∧ ¬ m = "lying" ∧ ¬ m = "total" ∧ ¬ m = "purses") → (W.fs).lookup m = none := fun h => wof_no _ _ _ _ _ _ _ _ h
    refine ⟨_, rfl, W, rfl, w5, fun H6 s6 => ⟨_, rfl, iteF ?_⟩⟩
    have w6 := w5.same s6
    have hT6 := hT5.same s6
    clear w5 hT5 s6
    refine ⟨zs2, fun L1 n1 => ?_⟩
    have v1 := same_upd (o := .lst [.int 0, .int 2]) n1
    have hL1 : upd H6 L1 (.lst [.int 0, .int 2]) L1 = some (.lst [.int 0, .int 2]) := upd_same
    generalize upd H6 L1 (.lst [.int 0, .int 2]) = H7 at v1 hL1
    have w7 := w6.same v1
    refine ⟨L1, rfl, ⟨_, SqL.of hL1⟩, lc_list (K := K) (a := L1) (xs := [.int 0, .int 2]) (fun i' ys σ H' => ∃ v0, σ = [v0, some (.ref W.x)] ∧ Same H7 H' ∧ ys.length = i' ∧ Paired (fun (p : Str × V) x => simple p.2 = true ∧ ∃ r, x = .ref r ∧ H' r = some (.tup [.str p.1, p.2])) ((([V.int 0, .int 2] : List V).take i').map fun z => ("purse", z)) ys) ⟨none, rfl, Same.refl _, rfl, .nil⟩ ?_ ?_ ?_⟩
    · rintro i' ys σ H' hi ⟨v0, rfl, s', l', _⟩
      exact ⟨SqL.of (s' _ _ hL1), len1000 (by rw [l']; have : i' ≤ 2 := hi; omega)⟩
    · rintro i' z ys σ H' hz ⟨v0, rfl, s', l', pr⟩
      dsimp only [gName, tYes]
      rw [if_pos rfl]
      have zs : (fun x => simple x && isB x 0 2) z = true := pick_of (p := fun x => simple x && isB x 0 2) (by decide) hz
      simp only [Bool.and_eq_true] at zs
      refine ⟨_, rfl, _, rfl, _, rfl, .ref W.x, 0, z, z, .int 0, rfl, .inl ⟨_, d_askC (w7.same s') zs.1 zs.1 rfl zs.2 zs.2 (.inr rfl), fun r1 H8 _ s8 h8 => ⟨_, rfl, s'.trans s8, by rw [List.length_append, l']; rfl, ?_⟩⟩⟩
      rw [take_snoc hz, List.map_append]
      exact paired_app (Paired.mapP pr fun _ _ ⟨a, r, e, h⟩ => ⟨a, r, e, s8 _ _ h⟩) ⟨zs.1, r1, rfl, h8⟩
    rintro ys σ H8 ⟨v0, rfl, s8, l8, pr⟩ L2 n2
    have v2 := same_upd (o := .lst ys) n2
    have hL2 : upd H8 L2 (.lst ys) L2 = some (.lst ys) := upd_same
    have pr2 : Paired (fun (p : Str × V) x => simple p.2 = true ∧ ∃ r, x = .ref r ∧ upd H8 L2 (.lst ys) r = some (.tup [.str p.1, p.2])) [("purse", .int 0), ("purse", .int 2)] ys := Paired.mapP pr fun _ _ ⟨a, r, e, h⟩ => ⟨a, r, e, v2 _ _ h⟩
    generalize upd H8 L2 (.lst ys) = H9 at v2 hL2 pr2
    have s79 := s8.trans v2
    have w9 := w7.same s79
    refine ⟨_, rfl, .ref W.x, 0, .int 2, .int 0, .int 0, rfl, .inl ⟨_, d_askC w9 rfl rfl rfl rfl rfl (.inl (by decide)), fun r1 H10 _ s10 h10 => ?_⟩⟩
    refine ⟨sz1, fun L3 n3 => ⟨L2, L3, ys, [.ref r1], rfl, rfl, (same_upd n3) _ _ (s10 _ _ hL2), upd_same, (by show ys.length + 1 ≤ sizeLine; rw [l8]; decide), fun L4 n4 => ?_⟩⟩
    have v3 := same_upd (o := .lst [.ref r1]) n3
    have v4 := same_upd (o := .lst (ys ++ [.ref r1])) n4
    have hL4 : upd (upd H10 L3 (.lst [.ref r1])) L4 (.lst (ys ++ [.ref r1])) L4 = some (.lst (ys ++ [.ref r1])) := upd_same
    have pr4 : Paired (fun (p : Str × V) x => simple p.2 = true ∧ ∃ r, x = .ref r ∧ upd (upd H10 L3 (.lst [.ref r1])) L4 (.lst (ys ++ [.ref r1])) r = some (.tup [.str p.1, p.2])) purs3 (ys ++ [.ref r1]) := paired_app (Paired.mapP pr2 fun _ _ ⟨a, r, e, h⟩ => ⟨a, r, e, v4 _ _ (v3 _ _ (s10 _ _ h))⟩) ⟨rfl, r1, rfl, v4 _ _ (v3 _ _ h10)⟩
    have s11 := (v1.trans s79).trans ((s10.trans v3).trans v4)
    generalize upd (upd H10 L3 (.lst [.ref r1])) L4 (.lst (ys ++ [.ref r1])) = H11 at hL4 pr4 s11
    refine lits_read _ (by decide) fun vs12 H12 s12 pb12 => ⟨(by rw [← Paired.length pb12]; decide), fun L5 n5 => ?_⟩
    have v5 := same_upd (o := .lst vs12) n5
    have pr5 : Paired (fun (p : Str × V) x => simple p.2 = true ∧ ∃ r, x = .ref r ∧ upd H12 L5 (.lst vs12) r = some (.tup [.str p.1, p.2])) purs3 vs12 := by
      cases pb12 with
      | cons z1 pb =>
        cases pb with
        | cons z2 pb =>
          cases pb with
          | cons z3 pb =>
            cases pb
            obtain ⟨a1, e1, _, h1⟩ := z1
            obtain ⟨a2, e2, _, h2⟩ := z2
            obtain ⟨a3, e3, _, h3⟩ := z3
            exact .cons ⟨rfl, a1, e1, v5 _ _ h1⟩ (.cons ⟨rfl, a2, e2, v5 _ _ h2⟩ (.cons ⟨rfl, a3, e3, v5 _ _ h3⟩ .nil))
    have s13 := s12.trans v5
    refine ⟨.lst (purDs purs3), .lst (purDs purs3), hasD_purs (s13 _ _ hL4) (Paired.mapP pr4 fun _ _ ⟨a, r, e, h⟩ => ⟨a, r, e, s13 _ _ h⟩), hasD_purs upd_same pr5, dep_purs _, _, rfl, ?_⟩
    rw [eqD_purs]
    refine iteF ?_
    have w13 := w6.same (s11.trans s13)
    have hT13 := hT6.same (s11.trans s13)
    generalize upd H12 L5 (.lst vs12) = H13 at w13 hT13
    clear pr5 v5 s13 pb12 s12 pr4 hL4 s11 v3 v4 h10 s10 w9 s79 pr2 hL2 v2 pr s8 w7 hL1 v1 w6 hT6
    refine ⟨zs5, fun M1 m1 => ?_⟩
    have v1 := same_upd (o := .lst [.int 0, .int 1001, .bl true, .non, .str "5"]) m1
    have hM1 : upd H13 M1 (.lst [.int 0, .int 1001, .bl true, .non, .str "5"]) M1 = some (.lst [.int 0, .int 1001, .bl true, .non, .str "5"]) := upd_same
    generalize upd H13 M1 (.lst [.int 0, .int 1001, .bl true, .non, .str "5"]) = H14 at v1 hM1
    have w14 := w13.same v1
    have hT14 := hT13.same v1
    refine ⟨M1, rfl, ⟨_, SqL.of hM1⟩, for_list (K := K) (a := M1) (xs := [.int 0, .int 1001, .bl true, .non, .str "5"]) (fun i σ H' => ∃ v, σ = [some (.ref a), some (.ref To), some (.ref W.x), v] ∧ Same H14 H') ⟨none, rfl, Same.refl _⟩ (fun i σ H' _ ⟨_, _, s'⟩ => SqL.of (s' _ _ hM1)) ?_ ?_⟩
    · rintro i y σ H' hy ⟨v, rfl, s'⟩
      have py : (fun x => simple x && !isB x 1 1000) y = true := pick_of (p := fun x => simple x && !isB x 1 1000) (by decide) hy
      simp only [Bool.and_eq_true, Bool.not_eq_true'] at py
      refine ⟨_, rfl, _, rfl, .ref W.x, 0, .int 0, .int 1, y, rfl, .inl ⟨_, d_askN (w14.same s') py.1 py.2, fun H'' s'' => ?_⟩⟩
      refine ⟨rfl, _, rfl, ?_⟩
      rw [decide_eq_true rfl]
      exact iteF ⟨_, rfl, s'.trans s''⟩
    rintro σ H15 ⟨vv, rfl, s15⟩
    have w15 := w14.same s15
    have hT15 := hT14.same s15
    clear w14 hT14 s15 hM1 v1 m1 w13 hT13
    refine ⟨zs4, fun M2 m2 => ?_⟩
    have v1 := same_upd (o := .lst [.int 4, .int 0, .bl true, .non]) m2
    have hM2 : upd H15 M2 (.lst [.int 4, .int 0, .bl true, .non]) M2 = some (.lst [.int 4, .int 0, .bl true, .non]) := upd_same
    generalize upd H15 M2 (.lst [.int 4, .int 0, .bl true, .non]) = H16 at v1 hM2
    have w16 := w15.same v1
    have hT16 := hT15.same v1
    refine ⟨M2, rfl, ⟨_, SqL.of hM2⟩, for_list (K := K) (a := M2) (xs := [.int 4, .int 0, .bl true, .non]) (fun i σ H' => ∃ v, σ = [some (.ref a), some (.ref To), some (.ref W.x), v] ∧ Same H16 H') ⟨vv, rfl, Same.refl _⟩ (fun i σ H' _ ⟨_, _, s'⟩ => SqL.of (s' _ _ hM2)) ?_ ?_⟩
    · rintro i y σ H' hy ⟨v, rfl, s'⟩
      have py : (fun x => simple x && (!isI x || !inV x [.int 3])) y = true := pick_of (p := fun x => simple x && (!isI x || !inV x [.int 3])) (by decide) hy
      simp only [Bool.and_eq_true, Bool.or_eq_true, Bool.not_eq_true'] at py
      refine ⟨_, rfl, _, rfl, .ref W.x, 2, y, .non, .int 0, rfl, .inl ⟨_, d_lieH (w16.same s') py.1 py.2, fun r1 H'' _ s'' h'' => ?_⟩⟩
      refine ⟨_, rfl, zs2, fun q1 nq1 => ?_⟩
      have t1 := same_upd (o := .tup [.str "house", y]) nq1
      refine ⟨purD "house" y, purD "house" y, hasD_pur (t1 _ _ h'') py.1, hasD_pur upd_same py.1, dep_pur _ _, _, rfl, ?_⟩
      rw [eqD_pur]
      exact iteF ⟨_, rfl, (s'.trans s'').trans t1⟩
    rintro σ H17 ⟨vv, rfl, s17⟩
    have w17 := w16.same s17
    have hT17 := hT16.same s17
    clear w16 hT16 s17 hM2 v1 m2 w15 hT15
    refine lits_read _ (by decide) fun vs18 H18 s18 pb18 => ⟨(by rw [← Paired.length pb18]; decide), fun M3 m3 => ?_⟩
    have bad : ∀ {i y}, vs18[i]? = some y → OrdIs H18 3 y false := fun h => litsBad pb18 (by decide) h
    have v1 := same_upd (o := .lst vs18) m3
    have hM3 : upd H18 M3 (.lst vs18) M3 = some (.lst vs18) := upd_same
    have l18 : vs18.length ≤ 1000 := by rw [← Paired.length pb18]; decide
    generalize upd H18 M3 (.lst vs18) = H19 at v1 hM3
    have w19 := w17.same (s18.trans v1)
    have hT19 := hT17.same (s18.trans v1)
    refine ⟨M3, rfl, ⟨_, SqL.of hM3⟩, for_list (K := K) (a := M3) (xs := vs18) (fun i σ H' => ∃ v, σ = [some (.ref a), some (.ref To), some (.ref W.x), v] ∧ Same H19 H') ⟨vv, rfl, Same.refl _⟩ (fun i σ H' _ ⟨_, _, s'⟩ => SqL.of (s' _ _ hM3)) ?_ ?_⟩
    · rintro i y σ H' hy ⟨v, rfl, s'⟩
      have oy := (bad hy).same (v1.trans s')
      have wa := w19.same s'
      refine ⟨_, rfl, _, rfl, .ref W.x, 1, y, .int 9, .int 0, rfl, .inl ⟨_, d_cheO wa rfl oy, fun Ha sa => ?_⟩⟩
      refine ⟨_, rfl, _, rfl, .ref W.x, 2, .int 3, y, .int 0, rfl, .inl ⟨_, d_lieO (wa.same sa) (oy.same sa), fun Hb sb => ?_⟩⟩
      refine ⟨_, rfl, _, rfl, .ref W.x, 8, y, .int 0, .int 0, rfl, .inl ⟨_, d_papO ((wa.same sa).same sb) ((oy.same sa).same sb), fun Hc sc => ?_⟩⟩
      refine ⟨zs3, fun q1 nq1 => ⟨sz1, fun q2 nq2 => ⟨q2, 3, [.str "order"], rfl, rfl, upd_same, (by decide), (by decide), zs3, fun q3 nq3 => ?_⟩⟩⟩
      have t1 := same_upd (o := .lst [.str "order", .str "order", .str "order"]) nq1
      have t2 := same_upd (o := .lst [.str "order"]) nq2
      have t3 := same_upd (o := .lst (List.replicate (3 : Int).toNat [V.str "order"]).flatten) nq3
      refine ⟨.lst (ords3.map Dt.str), .lst (ords3.map Dt.str), hasD_listS (SqL.of (t3 _ _ (t2 _ _ upd_same))), hasD_listS (SqL.of upd_same), depO3, _, rfl, ?_⟩
      rw [eqO3]
      exact iteF ⟨_, rfl, (((s'.trans sa).trans sb).trans sc).trans ((t1.trans t2).trans t3)⟩
    rintro σ H20 ⟨vv, rfl, s20⟩
    have w20 := w19.same s20
    have hT20 := hT19.same s20
    clear w19 hT19 s20 hM3 v1 m3 w17 hT17 bad pb18 s18
    refine ⟨_, rfl, zs4, fun o1 no1 => ?_⟩
    have t1 := same_upd (o := .tup (ordV ⟨0, 0, 1, 1⟩)) no1
    refine ⟨.ref W.x, 1, .ref o1, .int 9, .int 0, rfl, .inl ⟨_, d_cheP (ou := ⟨0, 0, 1, 1⟩) (w20.same t1) rfl upd_same (ord_tup upd_same (fun z hz => List.all_eq_true.mp (by decide) z hz) (by decide)) (by decide), fun r1 H21 _ s21 h21 => ?_⟩⟩
    refine ⟨zs2, fun q1 nq1 => ?_⟩
    have t2 := same_upd (o := .tup [.str "purse", .int 0]) nq1
    refine ⟨purD "purse" (.int 0), purD "purse" (.int 0), hasD_pur (t2 _ _ h21) rfl, hasD_pur upd_same rfl, dep_pur _ _, _, rfl, ?_⟩
    rw [eqD_pur]
    refine iteF ?_
    have w22 := ((w20.same t1).same s21).same t2
    have hT22 := ((hT20.same t1).same s21).same t2
    generalize upd H21 q1 (.tup [.str "purse", .int 0]) = H22 at w22 hT22
    clear t1 t2 s21 h21 w20 hT20
    refine ⟨_, rfl, zs4, fun o2 no2 => ?_⟩
    have t1 := same_upd (o := .tup (ordV ⟨0, 0, 1, 1⟩)) no2
    refine ⟨.ref W.x, 2, .int 3, .ref o2, .int 0, rfl, .inl ⟨_, d_lieP (ou := ⟨0, 0, 1, 1⟩) (w22.same t1) upd_same (ord_tup upd_same (fun z hz => List.all_eq_true.mp (by decide) z hz) (by decide)) (by decide) (by decide) (by decide), fun r1 H23 _ s23 h23 => ?_⟩⟩
    refine ⟨zs2, fun q1 nq1 => ?_⟩
    have t2 := same_upd (o := .tup [.str "purse", .int 0]) nq1
    refine ⟨purD "purse" (.int 0), purD "purse" (.int 0), hasD_pur (t2 _ _ h23) rfl, hasD_pur upd_same rfl, dep_pur _ _, _, rfl, ?_⟩
    rw [eqD_pur]
    refine iteF ?_
    have w24 := ((w22.same t1).same s23).same t2
    have hT24 := ((hT22.same t1).same s23).same t2
    generalize upd H23 q1 (.tup [.str "purse", .int 0]) = H24 at w24 hT24
    clear t1 t2 s23 h23 w22 hT22
    refine ⟨_, rfl, .ref W.x, 0, .int 0, .int 1, .int 11, rfl, .inl ⟨_, d_askM w24, fun H25 s25 => ?_⟩⟩
    refine ⟨rfl, _, rfl, ?_⟩
    rw [decide_eq_true rfl]
    refine iteF ?_
    have w25 := w24.same s25
    have hT25 := hT24.same s25
    refine ⟨_, rfl, _, rfl, zs3, fun L6 n6 => ?_⟩
    have hT26 := hT25.same (same_upd (o := .lst [.int 0, .non, .bl true]) n6)
    refine ⟨To, R, L6, [.int 0, .non, .bl true], rfl, hT26, upd_same, (hT25.fresh n6).1, (hT25.fresh n6).2, (by decide : 0 < 3), (by decide : 3 ≤ 1000), fun i6 x6 H27 e6 hT27 k27 => ?_⟩
    have p6 : (fun x => simple x && !isB x 0 (-1)) x6 = true := pick_of (p := fun x => simple x && !isB x 0 (-1)) (by decide) e6
    simp only [Bool.and_eq_true, Bool.not_eq_true'] at p6
    have w26 := w25.same (same_upd (o := .lst [.int 0, .non, .bl true]) n6)
    have w27 : Wor t H27 W := ⟨w26.o.keepT old hT26 k27, w26.n, w26.lv, w26.cv, w26.ns, w26.ks, w26.rl, w26.en⟩
    clear w24 hT24 s25 w25 hT25 hT26 w26 k27 hT27
    refine ⟨.ref W.x, 4, x6, .int 0, .int 0, rfl, .inl ⟨_, d_come w27 p6.1 p6.2, fun H28 s28 => ?_⟩⟩
    refine ⟨rfl, _, rfl, ?_⟩
    rw [decide_eq_true rfl]
    refine iteF ?_
    have w28 := w27.same s28
    clear w27 s28
    refine ⟨zs2, fun L7 n7 => ?_⟩
    have v1 := same_upd (o := .lst [.int 3, .int 8]) n7
    have hL7 : upd H28 L7 (.lst [.int 3, .int 8]) L7 = some (.lst [.int 3, .int 8]) := upd_same
    generalize upd H28 L7 (.lst [.int 3, .int 8]) = H29 at v1 hL7
    have w29 := w28.same v1
    refine ⟨L7, rfl, ⟨_, SqL.of hL7⟩, lc_list (K := K) (a := L7) (xs := [.int 3, .int 8]) (fun i' ys σ H' => ∃ v0, σ = [v0, some (.ref W.x)] ∧ Same H29 H' ∧ ys = List.replicate i' (.str "paper")) ⟨none, rfl, Same.refl _, rfl⟩ ?_ ?_ ?_⟩
    · rintro i' ys σ H' hi ⟨v0, rfl, s', rfl⟩
      exact ⟨SqL.of (s' _ _ hL7), len1000 (by rw [List.length_replicate]; have : i' ≤ 2 := hi; omega)⟩
    · rintro i' z ys σ H' hz ⟨v0, rfl, s', rfl⟩
      dsimp only [gName, tYes]
      rw [if_pos rfl]
      have hz2 : z = .int 3 ∨ z = .int 8 := by
        rcases List.mem_cons.mp (List.mem_of_getElem? hz : z ∈ [V.int 3, .int 8]) with e | e
        · exact .inl e
        · exact .inr (List.mem_singleton.mp e)
      refine ⟨_, rfl, _, rfl, zs4, fun o3 no3 => ?_⟩
      have t1 := same_upd (o := .tup (ordV ⟨2, 0, 0, 1⟩)) no3
      have wz := (w29.same s').same t1
      have ho : OrdIs (upd H' o3 (.tup (ordV ⟨2, 0, 0, 1⟩))) 3 (.ref o3) true := ord_tup upd_same (fun z hz => List.all_eq_true.mp (by decide) z hz) (by decide)
      have fin : ∀ kd, z = .int kd → DidR t (upd H' o3 (.tup (ordV ⟨2, 0, 0, 1⟩))) (.ref W.x) kd (.ref o3) (.int 0) (.int 0) .pap → ∃ x k o1 o2 o3', [.ref W.x, z, .ref o3, .int 0, .int 0] = [x, .int k, o1, o2, o3'] ∧ ((∃ a, DidR t (upd H' o3 (.tup (ordV ⟨2, 0, 0, 1⟩))) x k o1 o2 o3' a ∧ Tells (upd H' o3 (.tup (ordV ⟨2, 0, 0, 1⟩))) (fun y H4 => ∃ v0_1, ([v0, some (.ref W.x)].set 0 (some z) : St) = [v0_1, some (.ref W.x)] ∧ Same H29 H4 ∧ List.replicate i' (.str "paper") ++ [y] = List.replicate (i' + 1) (.str "paper")) a) ∨ (k = 0 ∧ ∃ W' i r, TAsk t (upd H' o3 (.tup (ordV ⟨2, 0, 0, 1⟩))) [x, o1, o2, o3'] W' i r ∧ ∀ H'' q ou ts row, WoC t H'' W' row ts → ts.length = W'.kvs.length → row i.toNat = [.ref q] → H'' q = some (.tup (ordV ou)) → ∃ v0_1, ([v0, some (.ref W.x)].set 0 (some z) : St) = [v0_1, some (.ref W.x)] ∧ Same H29 H'' ∧ List.replicate i' (V.str "paper") ++ [V.str "told"] = List.replicate (i' + 1) (V.str "paper"))) := by
        rintro kd rfl hd
        exact ⟨_, _, _, _, _, rfl, .inl ⟨_, hd, fun H'' s'' => ⟨_, rfl, (s'.trans t1).trans s'', by rw [List.replicate_succ']⟩⟩⟩
      rcases hz2 with e | e
      · exact fin 3 e (d_showP wz upd_same ho)
      · exact fin 8 e (d_papP wz upd_same ho)
    rintro ys σ H30 ⟨v0, rfl, s30, rfl⟩ L8 n8
    have v2 := same_upd (o := .lst (List.replicate 2 (.str "paper"))) n8
    have hL8 : upd H30 L8 (.lst (List.replicate 2 (.str "paper"))) L8 = some (.lst (paps2.map V.str)) := upd_same
    show tOp rRep _ _ _ (upd H30 L8 (.lst (List.replicate 2 (.str "paper")))) _
    have w31 := (w29.same s30).same v2
    generalize upd H30 L8 (.lst (List.replicate 2 (.str "paper"))) = H31 at v2 hL8 w31
    clear w29 s30 v2 w28 v1 hL7
    refine ⟨sz1, fun q2 nq2 => ⟨q2, 2, [.str "paper"], rfl, rfl, upd_same, (by decide), (by decide), zs2, fun q3 nq3 => ?_⟩⟩
    have t2 := same_upd (o := .lst [.str "paper"]) nq2
    have t3 := same_upd (o := .lst (List.replicate (2 : Int).toNat [V.str "paper"]).flatten) nq3
    refine ⟨.lst (paps2.map Dt.str), .lst (paps2.map Dt.str), hasD_listS (SqL.of (t3 _ _ (t2 _ _ hL8))), hasD_listS (SqL.of upd_same), depP2, _, rfl, ?_⟩
    rw [eqP2]
    refine iteF ?_
    have w32 := (w31.same t2).same t3
    generalize upd (upd H31 q2 (.lst [.str "paper"])) q3 (.lst (List.replicate (2 : Int).toNat [V.str "paper"]).flatten) = H32 at w32
    clear t2 t3 w31 hL8
    refine ⟨_, rfl, W.x, W.dx, _, rfl, w32.o.c.ob, hno (by decide +kernel), W, _, [], rfl, w32.o.c, by decide, fun r1 nr1 => ⟨zs0, fun r2 nr2 => ?_⟩⟩
    have t1 := same_upd (o := .lst []) nr1
    have t2 := same_upd (o := .lst []) nr2
    refine ⟨.lst (([] : List Str).map Dt.str), .lst (([] : List Str).map Dt.str), hasD_listS (SqL.of (t2 _ _ upd_same)), hasD_listS (SqL.of upd_same), (by simp [depD, depDs]), _, rfl, ?_⟩
    rw [show eqD (.lst (([] : List Str).map Dt.str)) (.lst (([] : List Str).map Dt.str)) = true by simp [eqD, eqDs]]
    refine iteF ?_
    have w33 := (w32.same t1).same t2
    generalize upd (upd H32 r1 (.lst [])) r2 (.lst []) = H33 at w33
    clear t1 t2 w32
    obtain ⟨r0, hr0⟩ := w33.ro (i := 0) (by decide)
    refine ⟨_, rfl, .ref W.x, 0, .int 0, .int 1, .int 10, rfl, .inr ⟨rfl, W, 0, r0, ⟨1, 10, 10, rfl, w33.o, ap, ⟨by decide, by rw [w33.n2]; decide⟩, ⟨by decide, by rw [w33.n2]; decide⟩, by rw [w33.cv]; rfl, by decide, ⟨by decide, by decide⟩, hr0, by rw [w33.kl]; decide, by rw [w33.kl]; decide, by rw [w33.ns]; rfl, by decide⟩, fun H34 q ou ts row O lts erow hq => ?_⟩⟩
    refine ⟨rfl, _, rfl, ?_⟩
    rw [decide_eq_true rfl]
    refine iteT ?_
    refine ⟨_, rfl, .ref W.x, 0, .int 0, .int 1, .int 1, rfl, .inl ⟨.now, .inl ⟨rfl, W, row, ts, .int 0, .int 1, .int 1, rfl, O, rfl, rfl, rfl, .inr (.inr ⟨by rw [w33.n2]; rfl, by rw [w33.n2]; rfl, .inr ⟨by rw [w33.cv]; rfl, by decide, .inr ⟨rfl, 0, r0, rfl, hr0, .inl ⟨q, ou, erow, hq, by rw [w33.en]; decide, rfl⟩⟩⟩⟩)⟩, fun H35 s35 => ?_⟩⟩
    refine ⟨rfl, _, rfl, ?_⟩
    rw [decide_eq_true rfl]
    refine iteT ?_
    have O5 := O.same s35
    refine ⟨_, rfl, W.x, W.dx, _, rfl, O5.ob, hno (by decide +kernel), W, row, ts, rfl, O5, by rw [lts, w33.kl]; decide, fun r1 nr1 => ⟨r1, ts, rfl, .inl (SqL.of upd_same), rfl, ?_⟩⟩
    rw [lts, w33.kl, show decide (V.int ((3 : Nat) : Int) = V.int 3) = true by decide]
    exact k _
end
set_option maxHeartbeats 4000000 in
theorem txt_mk {K : W.Frag} {h : Heap} {mg : Str → Option Value} (X : K.In h) (G : h.Ns mainGlobals mg)
    {ca0 : Addr}
    {ca1 : Addr}
    {ca2 : Addr}
    {ca3 : Addr}
    {xa0 : Addr}
    {xa1 : Addr}
    {xa2 : Addr}
    {xa3 : Addr}
    {xa4 : Addr}
    {xa5 : Addr}
    {xa6 : Addr}
    {xa7 : Addr}
    {xa8 : Addr}
    {xa9 : Addr}
    {xa10 : Addr}
    {xa11 : Addr}
    {f0 : Addr} {oc0 kV0 dc0 pm0 cd0 ct0 : Value} {od0 an0 : Option Addr} {sl0 : Array (Option Value)}
    {f1 : Addr} {oc1 kV1 dc1 pm1 cd1 ct1 : Value} {od1 an1 : Option Addr} {sl1 : Array (Option Value)}
    {f2 : Addr} {oc2 kV2 dc2 pm2 cd2 ct2 : Value} {od2 an2 : Option Addr} {sl2 : Array (Option Value)}
    {f3 : Addr} {oc3 kV3 dc3 pm3 cd3 ct3 : Value} {od3 an3 : Option Addr} {sl3 : Array (Option Value)}
    {f4 : Addr} {oc4 kV4 dc4 pm4 cd4 ct4 : Value} {od4 an4 : Option Addr} {sl4 : Array (Option Value)}
    {f5 : Addr} {oc5 kV5 dc5 pm5 cd5 ct5 : Value} {od5 an5 : Option Addr} {sl5 : Array (Option Value)}
    {f6 : Addr} {oc6 kV6 dc6 pm6 cd6 ct6 : Value} {od6 an6 : Option Addr} {sl6 : Array (Option Value)}
    {f7 : Addr} {oc7 kV7 dc7 pm7 cd7 ct7 : Value} {od7 an7 : Option Addr} {sl7 : Array (Option Value)}
    {f8 : Addr} {oc8 kV8 dc8 pm8 cd8 ct8 : Value} {od8 an8 : Option Addr} {sl8 : Array (Option Value)}
    {f9 : Addr} {oc9 kV9 dc9 pm9 cd9 ct9 : Value} {od9 an9 : Option Addr} {sl9 : Array (Option Value)}
    {f10 : Addr} {oc10 kV10 dc10 pm10 cd10 ct10 : Value} {od10 an10 : Option Addr} {sl10 : Array (Option Value)}
    {f11 : Addr} {oc11 kV11 dc11 pm11 cd11 ct11 : Value} {od11 an11 : Option Addr} {sl11 : Array (Option Value)}
    {f12 : Addr} {oc12 kV12 dc12 pm12 cd12 ct12 : Value} {od12 an12 : Option Addr} {sl12 : Array (Option Value)}
    {f13 : Addr} {oc13 kV13 dc13 pm13 cd13 ct13 : Value} {od13 an13 : Option Addr} {sl13 : Array (Option Value)}
    {f14 : Addr} {oc14 kV14 dc14 pm14 cd14 ct14 : Value} {od14 an14 : Option Addr} {sl14 : Array (Option Value)}
    {f15 : Addr} {oc15 kV15 dc15 pm15 cd15 ct15 : Value} {od15 an15 : Option Addr} {sl15 : Array (Option Value)}
    {f16 : Addr} {oc16 kV16 dc16 pm16 cd16 ct16 : Value} {od16 an16 : Option Addr} {sl16 : Array (Option Value)}
    {f17 : Addr} {oc17 kV17 dc17 pm17 cd17 ct17 : Value} {od17 an17 : Option Addr} {sl17 : Array (Option Value)}
    {f18 : Addr} {oc18 kV18 dc18 pm18 cd18 ct18 : Value} {od18 an18 : Option Addr} {sl18 : Array (Option Value)}
    {f19 : Addr} {oc19 kV19 dc19 pm19 cd19 ct19 : Value} {od19 an19 : Option Addr} {sl19 : Array (Option Value)}
    {f20 : Addr} {oc20 kV20 dc20 pm20 cd20 ct20 : Value} {od20 an20 : Option Addr} {sl20 : Array (Option Value)}
    {f21 : Addr} {oc21 kV21 dc21 pm21 cd21 ct21 : Value} {od21 an21 : Option Addr} {sl21 : Array (Option Value)}
    {f22 : Addr} {oc22 kV22 dc22 pm22 cd22 ct22 : Value} {od22 an22 : Option Addr} {sl22 : Array (Option Value)}
    {f23 : Addr} {oc23 kV23 dc23 pm23 cd23 ct23 : Value} {od23 an23 : Option Addr} {sl23 : Array (Option Value)}
    {f24 : Addr} {oc24 kV24 dc24 pm24 cd24 ct24 : Value} {od24 an24 : Option Addr} {sl24 : Array (Option Value)}
    {f25 : Addr} {oc25 kV25 dc25 pm25 cd25 ct25 : Value} {od25 an25 : Option Addr} {sl25 : Array (Option Value)}
    {f26 : Addr} {oc26 kV26 dc26 pm26 cd26 ct26 : Value} {od26 an26 : Option Addr} {sl26 : Array (Option Value)}
    {f27 : Addr} {oc27 kV27 dc27 pm27 cd27 ct27 : Value} {od27 an27 : Option Addr} {sl27 : Array (Option Value)}
    {f28 : Addr} {oc28 kV28 dc28 pm28 cd28 ct28 : Value} {od28 an28 : Option Addr} {sl28 : Array (Option Value)}
    {f29 : Addr} {oc29 kV29 dc29 pm29 cd29 ct29 : Value} {od29 an29 : Option Addr} {sl29 : Array (Option Value)}
    {f30 : Addr} {oc30 kV30 dc30 pm30 cd30 ct30 : Value} {od30 an30 : Option Addr} {sl30 : Array (Option Value)}
    {f31 : Addr} {oc31 kV31 dc31 pm31 cd31 ct31 : Value} {od31 an31 : Option Addr} {sl31 : Array (Option Value)}
    {f32 : Addr} {oc32 kV32 dc32 pm32 cd32 ct32 : Value} {od32 an32 : Option Addr} {sl32 : Array (Option Value)}
    {f33 : Addr} {oc33 kV33 dc33 pm33 cd33 ct33 : Value} {od33 an33 : Option Addr} {sl33 : Array (Option Value)}
    {f34 : Addr} {oc34 kV34 dc34 pm34 cd34 ct34 : Value} {od34 an34 : Option Addr} {sl34 : Array (Option Value)}
    {f35 : Addr} {oc35 kV35 dc35 pm35 cd35 ct35 : Value} {od35 an35 : Option Addr} {sl35 : Array (Option Value)}
    {f36 : Addr} {oc36 kV36 dc36 pm36 cd36 ct36 : Value} {od36 an36 : Option Addr} {sl36 : Array (Option Value)}
    {f37 : Addr} {oc37 kV37 dc37 pm37 cd37 ct37 : Value} {od37 an37 : Option Addr} {sl37 : Array (Option Value)}
    {f38 : Addr} {oc38 kV38 dc38 pm38 cd38 ct38 : Value} {od38 an38 : Option Addr} {sl38 : Array (Option Value)}
    {f39 : Addr} {oc39 kV39 dc39 pm39 cd39 ct39 : Value} {od39 an39 : Option Addr} {sl39 : Array (Option Value)}
    {f40 : Addr} {oc40 kV40 dc40 pm40 cd40 ct40 : Value} {od40 an40 : Option Addr} {sl40 : Array (Option Value)}
    {f41 : Addr} {oc41 kV41 dc41 pm41 cd41 ct41 : Value} {od41 an41 : Option Addr} {sl41 : Array (Option Value)}
    {f42 : Addr} {oc42 kV42 dc42 pm42 cd42 ct42 : Value} {od42 an42 : Option Addr} {sl42 : Array (Option Value)}
    {f43 : Addr} {oc43 kV43 dc43 pm43 cd43 ct43 : Value} {od43 an43 : Option Addr} {sl43 : Array (Option Value)}
    {f44 : Addr} {oc44 kV44 dc44 pm44 cd44 ct44 : Value} {od44 an44 : Option Addr} {sl44 : Array (Option Value)}
    {f45 : Addr} {oc45 kV45 dc45 pm45 cd45 ct45 : Value} {od45 an45 : Option Addr} {sl45 : Array (Option Value)}
    {f46 : Addr} {oc46 kV46 dc46 pm46 cd46 ct46 : Value} {od46 an46 : Option Addr} {sl46 : Array (Option Value)}
    {f47 : Addr} {oc47 kV47 dc47 pm47 cd47 ct47 : Value} {od47 an47 : Option Addr} {sl47 : Array (Option Value)}
    {gt0 : Tok}
    {gt1 : Tok}
    {gt2 : Tok}
    {gt3 : Tok}
    {gt4 : Tok}
    {gt5 : Tok}
    {gt6 : Tok}
    {gt7 : Tok}
    (cm0 : W.nsIn K mainGlobals "Book" = some (some (.ref ca0)))
    (cg0 : W.plainGet K ca0 Str.empty = true) (ch0 : W.hasDictIn K ca0 = true) (co0 : W.plainOver K ca0 = true) (cs0 : W.findIn K (.ref ca0) "__setattr__" = some (some (.builtin "object.__setattr__")))
    (cn0_0 : W.findIn K (.ref ca0) "held" = some none)
    (cn0_1 : W.findIn K (.ref ca0) "next_numbers" = some none)
    (cn0_2 : W.findIn K (.ref ca0) "done" = some none)
    (cm1 : W.nsIn K mainGlobals "Keeper" = some (some (.ref ca1)))
    (cg1 : W.plainGet K ca1 Str.empty = true) (ch1 : W.hasDictIn K ca1 = true) (co1 : W.plainOver K ca1 = true) (cs1 : W.findIn K (.ref ca1) "__setattr__" = some (some (.builtin "object.__setattr__")))
    (cn1_0 : W.findIn K (.ref ca1) "held" = some none)
    (cn1_1 : W.findIn K (.ref ca1) "next_numbers" = some none)
    (cn1_2 : W.findIn K (.ref ca1) "done" = some none)
    (cn1_3 : W.findIn K (.ref ca1) "heard" = some none)
    (cn1_4 : W.findIn K (.ref ca1) "unvoted" = some none)
    (cn1_5 : W.findIn K (.ref ca1) "choices" = some none)
    (cn1_6 : W.findIn K (.ref ca1) "waiting" = some none)
    (cm2 : W.nsIn K mainGlobals "Board" = some (some (.ref ca2)))
    (cg2 : W.plainGet K ca2 Str.empty = true) (ch2 : W.hasDictIn K ca2 = true) (co2 : W.plainOver K ca2 = true) (cs2 : W.findIn K (.ref ca2) "__setattr__" = some (some (.builtin "object.__setattr__")))
    (cn2_0 : W.findIn K (.ref ca2) "enough" = some none)
    (cn2_1 : W.findIn K (.ref ca2) "signers" = some none)
    (cm3 : W.nsIn K mainGlobals "World" = some (some (.ref ca3)))
    (cg3 : W.plainGet K ca3 Str.empty = true) (ch3 : W.hasDictIn K ca3 = true) (co3 : W.plainOver K ca3 = true) (cs3 : W.findIn K (.ref ca3) "__setattr__" = some (some (.builtin "object.__setattr__")))
    (cn3_0 : W.findIn K (.ref ca3) "purses" = some none)
    (cn3_1 : W.findIn K (.ref ca3) "total" = some none)
    (cn3_2 : W.findIn K (.ref ca3) "lying" = some none)
    (cn3_3 : W.findIn K (.ref ca3) "cheating" = some none)
    (cn3_4 : W.findIn K (.ref ca3) "keepers" = some none)
    (cn3_5 : W.findIn K (.ref ca3) "board" = some none)
    (cn3_6 : W.findIn K (.ref ca3) "asked" = some none)
    (cn3_7 : W.findIn K (.ref ca3) "on_way" = some none)
    (xm0 : W.nsIn K mainGlobals "BadHouses" = some (some (.ref xa0)))
    (xm1 : W.nsIn K mainGlobals "BadNumber" = some (some (.ref xa1)))
    (xm2 : W.nsIn K mainGlobals "NoHouse" = some (some (.ref xa2)))
    (xm3 : W.nsIn K mainGlobals "NoPurse" = some (some (.ref xa3)))
    (xm4 : W.nsIn K mainGlobals "BadOrder" = some (some (.ref xa4)))
    (xm5 : W.nsIn K mainGlobals "BadPaper" = some (some (.ref xa5)))
    (xm6 : W.nsIn K mainGlobals "NoLetter" = some (some (.ref xa6)))
    (xm7 : W.nsIn K mainGlobals "TooMuch" = some (some (.ref xa7)))
    (xm8 : W.nsIn K mainGlobals "NotNow" = some (some (.ref xa8)))
    (xm9 : W.nsIn K mainGlobals "PurseError" = some (some (.ref xa9)))
    (xm10 : W.nsIn K mainGlobals "BadCut" = some (some (.ref xa10)))
    (xm11 : W.nsIn K mainGlobals "BadText" = some (some (.ref xa11)))
    (a0 : W.nsIn K mainGlobals "is_whole" = some (some (.ref f0)))
    (l0 : K.lookup f0 = some ⟨oc0, od0, .func (W.fnOf "is_whole" "is_whole" (defArgs s_is_whole) (defBody s_is_whole) (defScope s_is_whole) .none kV0 dc0 pm0 an0 cd0 ct0), sl0⟩)
    (c0 : W.codeIn K cd0 "is_whole" = true) (k0 : W.keepIn K (.ref f0) = true)
    (a1 : W.nsIn K mainGlobals "is_between" = some (some (.ref f1)))
    (l1 : K.lookup f1 = some ⟨oc1, od1, .func (W.fnOf "is_between" "is_between" (defArgs s_is_between) (defBody s_is_between) (defScope s_is_between) .none kV1 dc1 pm1 an1 cd1 ct1), sl1⟩)
    (c1 : W.codeIn K cd1 "is_between" = true) (k1 : W.keepIn K (.ref f1) = true)
    (a2 : W.nsIn K mainGlobals "is_order" = some (some (.ref f2)))
    (l2 : K.lookup f2 = some ⟨oc2, od2, .func (W.fnOf "is_order" "is_order" (defArgs s_is_order) (defBody s_is_order) (defScope s_is_order) .none kV2 dc2 pm2 an2 cd2 ct2), sl2⟩)
    (c2 : W.codeIn K cd2 "is_order" = true) (k2 : W.keepIn K (.ref f2) = true)
    (a3 : W.nsIn K mainGlobals "are_rising" = some (some (.ref f3)))
    (l3 : K.lookup f3 = some ⟨oc3, od3, .func (W.fnOf "are_rising" "are_rising" (defArgs s_are_rising) (defBody s_are_rising) (defScope s_are_rising) .none kV3 dc3 pm3 an3 cd3 ct3), sl3⟩)
    (c3 : W.codeIn K cd3 "are_rising" = true) (k3 : W.keepIn K (.ref f3) = true)
    (a4 : W.nsIn K mainGlobals "is_rising_row" = some (some (.ref f4)))
    (l4 : K.lookup f4 = some ⟨oc4, od4, .func (W.fnOf "is_rising_row" "is_rising_row" (defArgs s_is_rising_row) (defBody s_is_rising_row) (defScope s_is_rising_row) .none kV4 dc4 pm4 an4 cd4 ct4), sl4⟩)
    (c4 : W.codeIn K cd4 "is_rising_row" = true) (k4 : W.keepIn K (.ref f4) = true)
    (a5 : W.nsIn K mainGlobals "is_house_count" = some (some (.ref f5)))
    (l5 : K.lookup f5 = some ⟨oc5, od5, .func (W.fnOf "is_house_count" "is_house_count" (defArgs s_is_house_count) (defBody s_is_house_count) (defScope s_is_house_count) .none kV5 dc5 pm5 an5 cd5 ct5), sl5⟩)
    (c5 : W.codeIn K cd5 "is_house_count" = true) (k5 : W.keepIn K (.ref f5) = true)
    (a6 : W.nsIn K mainGlobals "is_few" = some (some (.ref f6)))
    (l6 : K.lookup f6 = some ⟨oc6, od6, .func (W.fnOf "is_few" "is_few" (defArgs s_is_few) (defBody s_is_few) (defScope s_is_few) .none kV6 dc6 pm6 an6 cd6 ct6), sl6⟩)
    (c6 : W.codeIn K cd6 "is_few" = true) (k6 : W.keepIn K (.ref f6) = true)
    (a7 : W.nsIn K mainGlobals "outnumber" = some (some (.ref f7)))
    (l7 : K.lookup f7 = some ⟨oc7, od7, .func (W.fnOf "outnumber" "outnumber" (defArgs s_outnumber) (defBody s_outnumber) (defScope s_outnumber) .none kV7 dc7 pm7 an7 cd7 ct7), sl7⟩)
    (c7 : W.codeIn K cd7 "outnumber" = true) (k7 : W.keepIn K (.ref f7) = true)
    (a8 : W.nsIn K mainGlobals "enough_of" = some (some (.ref f8)))
    (l8 : K.lookup f8 = some ⟨oc8, od8, .func (W.fnOf "enough_of" "enough_of" (defArgs s_enough_of) (defBody s_enough_of) (defScope s_enough_of) .none kV8 dc8 pm8 an8 cd8 ct8), sl8⟩)
    (c8 : W.codeIn K cd8 "enough_of" = true) (k8 : W.keepIn K (.ref f8) = true)
    (a9 : W.nsIn K mainGlobals "are_sums" = some (some (.ref f9)))
    (l9 : K.lookup f9 = some ⟨oc9, od9, .func (W.fnOf "are_sums" "are_sums" (defArgs s_are_sums) (defBody s_are_sums) (defScope s_are_sums) .none kV9 dc9 pm9 an9 cd9 ct9), sl9⟩)
    (c9 : W.codeIn K cd9 "are_sums" = true) (k9 : W.keepIn K (.ref f9) = true)
    (a10 : W.nsIn K mainGlobals "are_first_sums" = some (some (.ref f10)))
    (l10 : K.lookup f10 = some ⟨oc10, od10, .func (W.fnOf "are_first_sums" "are_first_sums" (defArgs s_are_first_sums) (defBody s_are_first_sums) (defScope s_are_first_sums) .none kV10 dc10 pm10 an10 cd10 ct10), sl10⟩)
    (c10 : W.codeIn K cd10 "are_first_sums" = true) (k10 : W.keepIn K (.ref f10) = true)
    (a11 : W.findIn K (.ref xa3) "__init__" = some (some (.ref f11)))
    (l11 : K.lookup f11 = some ⟨oc11, od11, .func (W.fnOf "__init__" "NoPurse.__init__" (defArgs s_NoPurse___init__) (defBody s_NoPurse___init__) (defScope s_NoPurse___init__) .none kV11 dc11 pm11 an11 cd11 ct11), sl11⟩)
    (c11 : W.codeIn K cd11 "NoPurse.__init__" = true) (k11 : W.keepIn K (.ref f11) = true)
    (xrn11 : initIn K xa3 f11 = true) (xd11a : W.findIn K (.ref xa3) "__setattr__" = some (some (.builtin "object.__setattr__"))) (xd11b : W.findIn K (.ref xa3) "__getattribute__" = some (some (.builtin "BaseException.__getattribute__"))) (xd11c : W.findIn K (.ref xa3) "__getattr__" = some none) (xd11d : W.findIn K (.ref xa3) "purse" = some none)
    (a12 : W.findIn K (.ref xa2) "__init__" = some (some (.ref f12)))
    (l12 : K.lookup f12 = some ⟨oc12, od12, .func (W.fnOf "__init__" "NoHouse.__init__" (defArgs s_NoHouse___init__) (defBody s_NoHouse___init__) (defScope s_NoHouse___init__) .none kV12 dc12 pm12 an12 cd12 ct12), sl12⟩)
    (c12 : W.codeIn K cd12 "NoHouse.__init__" = true) (k12 : W.keepIn K (.ref f12) = true)
    (xrn12 : initIn K xa2 f12 = true) (xd12a : W.findIn K (.ref xa2) "__setattr__" = some (some (.builtin "object.__setattr__"))) (xd12b : W.findIn K (.ref xa2) "__getattribute__" = some (some (.builtin "BaseException.__getattribute__"))) (xd12c : W.findIn K (.ref xa2) "__getattr__" = some none) (xd12d : W.findIn K (.ref xa2) "house" = some none)
    (a13 : W.nsIn K mainGlobals "check_houses" = some (some (.ref f13)))
    (l13 : K.lookup f13 = some ⟨oc13, od13, .func (W.fnOf "check_houses" "check_houses" (defArgs s_check_houses) (defBody s_check_houses) (defScope s_check_houses) .none kV13 dc13 pm13 an13 cd13 ct13), sl13⟩)
    (c13 : W.codeIn K cd13 "check_houses" = true) (k13 : W.keepIn K (.ref f13) = true)
    (a14 : W.nsIn K mainGlobals "check_purses" = some (some (.ref f14)))
    (l14 : K.lookup f14 = some ⟨oc14, od14, .func (W.fnOf "check_purses" "check_purses" (defArgs s_check_purses) (defBody s_check_purses) (defScope s_check_purses) .none kV14 dc14 pm14 an14 cd14 ct14), sl14⟩)
    (c14 : W.codeIn K cd14 "check_purses" = true) (k14 : W.keepIn K (.ref f14) = true)
    (a15 : W.findIn K (.ref ca2) "__init__" = some (some (.ref f15))) (n15 : W.isFn K (.ref f15) = true)
    (mk15 : W.makesIn K ca2 = true) (mq15 : W.keepIn K (.ref ca2) = true)
    (l15 : K.lookup f15 = some ⟨oc15, od15, .func (W.fnOf "__init__" "Board.__init__" (defArgs s_Board___init__) (defBody s_Board___init__) (defScope s_Board___init__) .none kV15 dc15 pm15 an15 cd15 ct15), sl15⟩)
    (c15 : W.codeIn K cd15 "Board.__init__" = true) (k15 : W.keepIn K (.ref f15) = true)
    (a16 : W.findIn K (.ref ca2) "is_carried" = some (some (.ref f16))) (n16 : W.isFn K (.ref f16) = true)
    (l16 : K.lookup f16 = some ⟨oc16, od16, .func (W.fnOf "is_carried" "Board.is_carried" (defArgs s_Board_is_carried) (defBody s_Board_is_carried) (defScope s_Board_is_carried) .none kV16 dc16 pm16 an16 cd16 ct16), sl16⟩)
    (c16 : W.codeIn K cd16 "Board.is_carried" = true) (k16 : W.keepIn K (.ref f16) = true)
    (a17 : W.findIn K (.ref ca0) "__init__" = some (some (.ref f17))) (n17 : W.isFn K (.ref f17) = true)
    (mk17 : W.makesIn K ca0 = true) (mq17 : W.keepIn K (.ref ca0) = true)
    (l17 : K.lookup f17 = some ⟨oc17, od17, .func (W.fnOf "__init__" "Book.__init__" (defArgs s_Book___init__) (defBody s_Book___init__) (defScope s_Book___init__) .none kV17 dc17 pm17 an17 cd17 ct17), sl17⟩)
    (c17 : W.codeIn K cd17 "Book.__init__" = true) (k17 : W.keepIn K (.ref f17) = true)
    (a18 : W.findIn K (.ref ca0) "is_past" = some (some (.ref f18))) (n18 : W.isFn K (.ref f18) = true)
    (l18 : K.lookup f18 = some ⟨oc18, od18, .func (W.fnOf "is_past" "Book.is_past" (defArgs s_Book_is_past) (defBody s_Book_is_past) (defScope s_Book_is_past) .none kV18 dc18 pm18 an18 cd18 ct18), sl18⟩)
    (c18 : W.codeIn K cd18 "Book.is_past" = true) (k18 : W.keepIn K (.ref f18) = true)
    (a19 : W.findIn K (.ref ca1) "__init__" = some (some (.ref f19))) (n19 : W.isFn K (.ref f19) = true)
    (mk19 : W.makesIn K ca1 = true) (mq19 : W.keepIn K (.ref ca1) = true)
    (l19 : K.lookup f19 = some ⟨oc19, od19, .func (W.fnOf "__init__" "Keeper.__init__" (defArgs s_Keeper___init__) (defBody s_Keeper___init__) (defScope s_Keeper___init__) .none kV19 dc19 pm19 an19 cd19 ct19), sl19⟩)
    (c19 : W.codeIn K cd19 "Keeper.__init__" = true) (k19 : W.keepIn K (.ref f19) = true)
    (a20 : W.findIn K (.ref ca1) "left_of" = some (some (.ref f20))) (n20 : W.isFn K (.ref f20) = true)
    (l20 : K.lookup f20 = some ⟨oc20, od20, .func (W.fnOf "left_of" "Keeper.left_of" (defArgs s_Keeper_left_of) (defBody s_Keeper_left_of) (defScope s_Keeper_left_of) .none kV20 dc20 pm20 an20 cd20 ct20), sl20⟩)
    (c20 : W.codeIn K cd20 "Keeper.left_of" = true) (k20 : W.keepIn K (.ref f20) = true)
    (a21 : W.findIn K (.ref ca3) "__init__" = some (some (.ref f21))) (n21 : W.isFn K (.ref f21) = true)
    (mk21 : W.makesIn K ca3 = true) (mq21 : W.keepIn K (.ref ca3) = true)
    (l21 : K.lookup f21 = some ⟨oc21, od21, .func (W.fnOf "__init__" "World.__init__" (defArgs s_World___init__) (defBody s_World___init__) (defScope s_World___init__) .none kV21 dc21 pm21 an21 cd21 ct21), sl21⟩)
    (c21 : W.codeIn K cd21 "World.__init__" = true) (k21 : W.keepIn K (.ref f21) = true)
    (a22 : W.findIn K (.ref ca3) "write_to_all" = some (some (.ref f22))) (n22 : W.isFn K (.ref f22) = true)
    (l22 : K.lookup f22 = some ⟨oc22, od22, .func (W.fnOf "write_to_all" "World.write_to_all" (defArgs s_World_write_to_all) (defBody s_World_write_to_all) (defScope s_World_write_to_all) .none kV22 dc22 pm22 an22 cd22 ct22), sl22⟩)
    (c22 : W.codeIn K cd22 "World.write_to_all" = true) (k22 : W.keepIn K (.ref f22) = true)
    (a23 : W.findIn K (.ref ca3) "letters" = some (some (.ref f23))) (n23 : W.isFn K (.ref f23) = true)
    (l23 : K.lookup f23 = some ⟨oc23, od23, .func (W.fnOf "letters" "World.letters" (defArgs s_World_letters) (defBody s_World_letters) (defScope s_World_letters) .none kV23 dc23 pm23 an23 cd23 ct23), sl23⟩)
    (c23 : W.codeIn K cd23 "World.letters" = true) (k23 : W.keepIn K (.ref f23) = true)
    (a24 : W.findIn K (.ref ca3) "keeper_of" = some (some (.ref f24))) (n24 : W.isFn K (.ref f24) = true)
    (l24 : K.lookup f24 = some ⟨oc24, od24, .func (W.fnOf "keeper_of" "World.keeper_of" (defArgs s_World_keeper_of) (defBody s_World_keeper_of) (defScope s_World_keeper_of) .none kV24 dc24 pm24 an24 cd24 ct24), sl24⟩)
    (c24 : W.codeIn K cd24 "World.keeper_of" = true) (k24 : W.keepIn K (.ref f24) = true)
    (a25 : W.findIn K (.ref ca3) "check_liar" = some (some (.ref f25))) (n25 : W.isFn K (.ref f25) = true)
    (l25 : K.lookup f25 = some ⟨oc25, od25, .func (W.fnOf "check_liar" "World.check_liar" (defArgs s_World_check_liar) (defBody s_World_check_liar) (defScope s_World_check_liar) .none kV25 dc25 pm25 an25 cd25 ct25), sl25⟩)
    (c25 : W.codeIn K cd25 "World.check_liar" = true) (k25 : W.keepIn K (.ref f25) = true)
    (a26 : W.findIn K (.ref ca3) "check_purse" = some (some (.ref f26))) (n26 : W.isFn K (.ref f26) = true)
    (l26 : K.lookup f26 = some ⟨oc26, od26, .func (W.fnOf "check_purse" "World.check_purse" (defArgs s_World_check_purse) (defBody s_World_check_purse) (defScope s_World_check_purse) .none kV26 dc26 pm26 an26 cd26 ct26), sl26⟩)
    (c26 : W.codeIn K cd26 "World.check_purse" = true) (k26 : W.keepIn K (.ref f26) = true)
    (a27 : W.findIn K (.ref ca3) "check_asker" = some (some (.ref f27))) (n27 : W.isFn K (.ref f27) = true)
    (l27 : K.lookup f27 = some ⟨oc27, od27, .func (W.fnOf "check_asker" "World.check_asker" (defArgs s_World_check_asker) (defBody s_World_check_asker) (defScope s_World_check_asker) .none kV27 dc27 pm27 an27 cd27 ct27), sl27⟩)
    (c27 : W.codeIn K cd27 "World.check_asker" = true) (k27 : W.keepIn K (.ref f27) = true)
    (a28 : W.findIn K (.ref ca3) "check_order" = some (some (.ref f28))) (n28 : W.isFn K (.ref f28) = true)
    (l28 : K.lookup f28 = some ⟨oc28, od28, .func (W.fnOf "check_order" "World.check_order" (defArgs s_World_check_order) (defBody s_World_check_order) (defScope s_World_check_order) .none kV28 dc28 pm28 an28 cd28 ct28), sl28⟩)
    (c28 : W.codeIn K cd28 "World.check_order" = true) (k28 : W.keepIn K (.ref f28) = true)
    (a29 : W.findIn K (.ref ca3) "next_number" = some (some (.ref f29))) (n29 : W.isFn K (.ref f29) = true)
    (l29 : K.lookup f29 = some ⟨oc29, od29, .func (W.fnOf "next_number" "World.next_number" (defArgs s_World_next_number) (defBody s_World_next_number) (defScope s_World_next_number) .none kV29 dc29 pm29 an29 cd29 ct29), sl29⟩)
    (c29 : W.codeIn K cd29 "World.next_number" = true) (k29 : W.keepIn K (.ref f29) = true)
    (a30 : W.findIn K (.ref ca3) "ask" = some (some (.ref f30))) (n30 : W.isFn K (.ref f30) = true)
    (l30 : K.lookup f30 = some ⟨oc30, od30, .func (W.fnOf "ask" "World.ask" (defArgs s_World_ask) (defBody s_World_ask) (defScope s_World_ask) .none kV30 dc30 pm30 an30 cd30 ct30), sl30⟩)
    (c30 : W.codeIn K cd30 "World.ask" = true) (k30 : W.keepIn K (.ref f30) = true)
    (a31 : W.findIn K (.ref ca3) "cheat" = some (some (.ref f31))) (n31 : W.isFn K (.ref f31) = true)
    (l31 : K.lookup f31 = some ⟨oc31, od31, .func (W.fnOf "cheat" "World.cheat" (defArgs s_World_cheat) (defBody s_World_cheat) (defScope s_World_cheat) .none kV31 dc31 pm31 an31 cd31 ct31), sl31⟩)
    (c31 : W.codeIn K cd31 "World.cheat" = true) (k31 : W.keepIn K (.ref f31) = true)
    (a32 : W.findIn K (.ref ca3) "lie" = some (some (.ref f32))) (n32 : W.isFn K (.ref f32) = true)
    (l32 : K.lookup f32 = some ⟨oc32, od32, .func (W.fnOf "lie" "World.lie" (defArgs s_World_lie) (defBody s_World_lie) (defScope s_World_lie) .none kV32 dc32 pm32 an32 cd32 ct32), sl32⟩)
    (c32 : W.codeIn K cd32 "World.lie" = true) (k32 : W.keepIn K (.ref f32) = true)
    (a33 : W.findIn K (.ref ca3) "show" = some (some (.ref f33))) (n33 : W.isFn K (.ref f33) = true)
    (l33 : K.lookup f33 = some ⟨oc33, od33, .func (W.fnOf "show" "World.show" (defArgs s_World_show) (defBody s_World_show) (defScope s_World_show) .none kV33 dc33 pm33 an33 cd33 ct33), sl33⟩)
    (c33 : W.codeIn K cd33 "World.show" = true) (k33 : W.keepIn K (.ref f33) = true)
    (a34 : W.findIn K (.ref ca3) "come" = some (some (.ref f34))) (n34 : W.isFn K (.ref f34) = true)
    (l34 : K.lookup f34 = some ⟨oc34, od34, .func (W.fnOf "come" "World.come" (defArgs s_World_come) (defBody s_World_come) (defScope s_World_come) .none kV34 dc34 pm34 an34 cd34 ct34), sl34⟩)
    (c34 : W.codeIn K cd34 "World.come" = true) (k34 : W.keepIn K (.ref f34) = true)
    (a35 : W.findIn K (.ref ca3) "sums" = some (some (.ref f35))) (n35 : W.isFn K (.ref f35) = true)
    (l35 : K.lookup f35 = some ⟨oc35, od35, .func (W.fnOf "sums" "World.sums" (defArgs s_World_sums) (defBody s_World_sums) (defScope s_World_sums) .none kV35 dc35 pm35 an35 cd35 ct35), sl35⟩)
    (c35 : W.codeIn K cd35 "World.sums" = true) (k35 : W.keepIn K (.ref f35) = true)
    (a36 : W.findIn K (.ref ca3) "voted" = some (some (.ref f36))) (n36 : W.isFn K (.ref f36) = true)
    (l36 : K.lookup f36 = some ⟨oc36, od36, .func (W.fnOf "voted" "World.voted" (defArgs s_World_voted) (defBody s_World_voted) (defScope s_World_voted) .none kV36 dc36 pm36 an36 cd36 ct36), sl36⟩)
    (c36 : W.codeIn K cd36 "World.voted" = true) (k36 : W.keepIn K (.ref f36) = true)
    (a37 : W.findIn K (.ref ca3) "paper" = some (some (.ref f37))) (n37 : W.isFn K (.ref f37) = true)
    (l37 : K.lookup f37 = some ⟨oc37, od37, .func (W.fnOf "paper" "World.paper" (defArgs s_World_paper) (defBody s_World_paper) (defScope s_World_paper) .none kV37 dc37 pm37 an37 cd37 ct37), sl37⟩)
    (c37 : W.codeIn K cd37 "World.paper" = true) (k37 : W.keepIn K (.ref f37) = true)
    (a38 : W.nsIn K mainGlobals "_law_town" = some (some (.ref f38)))
    (l38 : K.lookup f38 = some ⟨oc38, od38, .func (W.fnOf "_law_town" "_law_town" (defArgs s__law_town) (defBody s__law_town) (defScope s__law_town) .none kV38 dc38 pm38 an38 cd38 ct38), sl38⟩)
    (c38 : W.codeIn K cd38 "_law_town" = true) (k38 : W.keepIn K (.ref f38) = true)
    (a39 : W.nsIn K mainGlobals "_law_draw" = some (some (.ref f39)))
    (l39 : K.lookup f39 = some ⟨oc39, od39, .func (W.fnOf "_law_draw" "_law_draw" (defArgs s__law_draw) (defBody s__law_draw) (defScope s__law_draw) .none kV39 dc39 pm39 an39 cd39 ct39), sl39⟩)
    (c39 : W.codeIn K cd39 "_law_draw" = true) (k39 : W.keepIn K (.ref f39) = true)
    (a40 : W.nsIn K mainGlobals "_law_pick" = some (some (.ref f40)))
    (l40 : K.lookup f40 = some ⟨oc40, od40, .func (W.fnOf "_law_pick" "_law_pick" (defArgs s__law_pick) (defBody s__law_pick) (defScope s__law_pick) .none kV40 dc40 pm40 an40 cd40 ct40), sl40⟩)
    (c40 : W.codeIn K cd40 "_law_pick" = true) (k40 : W.keepIn K (.ref f40) = true)
    (a41 : W.nsIn K mainGlobals "_law_refusal" = some (some (.ref f41)))
    (l41 : K.lookup f41 = some ⟨oc41, od41, .func (W.fnOf "_law_refusal" "_law_refusal" (defArgs s__law_refusal) (defBody s__law_refusal) (defScope s__law_refusal) .none kV41 dc41 pm41 an41 cd41 ct41), sl41⟩)
    (c41 : W.codeIn K cd41 "_law_refusal" = true) (k41 : W.keepIn K (.ref f41) = true)
    (a42 : W.nsIn K mainGlobals "_law_made" = some (some (.ref f42)))
    (l42 : K.lookup f42 = some ⟨oc42, od42, .func (W.fnOf "_law_made" "_law_made" (defArgs s__law_made) (defBody s__law_made) (defScope s__law_made) .none kV42 dc42 pm42 an42 cd42 ct42), sl42⟩)
    (c42 : W.codeIn K cd42 "_law_made" = true) (k42 : W.keepIn K (.ref f42) = true)
    (a43 : W.nsIn K mainGlobals "_law_did" = some (some (.ref f43)))
    (l43 : K.lookup f43 = some ⟨oc43, od43, .func (W.fnOf "_law_did" "_law_did" (defArgs s__law_did) (defBody s__law_did) (defScope s__law_did) .none kV43 dc43 pm43 an43 cd43 ct43), sl43⟩)
    (c43 : W.codeIn K cd43 "_law_did" = true) (k43 : W.keepIn K (.ref f43) = true)
    (a44 : W.nsIn K mainGlobals "_law_asked" = some (some (.ref f44)))
    (l44 : K.lookup f44 = some ⟨oc44, od44, .func (W.fnOf "_law_asked" "_law_asked" (defArgs s__law_asked) (defBody s__law_asked) (defScope s__law_asked) .none kV44 dc44 pm44 an44 cd44 ct44), sl44⟩)
    (c44 : W.codeIn K cd44 "_law_asked" = true) (k44 : W.keepIn K (.ref f44) = true)
    (a45 : W.nsIn K mainGlobals "_law_not_made" = some (some (.ref f45)))
    (l45 : K.lookup f45 = some ⟨oc45, od45, .func (W.fnOf "_law_not_made" "_law_not_made" (defArgs s__law_not_made) (defBody s__law_not_made) (defScope s__law_not_made) .none kV45 dc45 pm45 an45 cd45 ct45), sl45⟩)
    (c45 : W.codeIn K cd45 "_law_not_made" = true) (k45 : W.keepIn K (.ref f45) = true)
    (a46 : W.nsIn K mainGlobals "_law_bad_ones" = some (some (.ref f46)))
    (l46 : K.lookup f46 = some ⟨oc46, od46, .func (W.fnOf "_law_bad_ones" "_law_bad_ones" (defArgs s__law_bad_ones) (defBody s__law_bad_ones) (defScope s__law_bad_ones) .none kV46 dc46 pm46 an46 cd46 ct46), sl46⟩)
    (c46 : W.codeIn K cd46 "_law_bad_ones" = true) (k46 : W.keepIn K (.ref f46) = true)
    (a47 : W.nsIn K mainGlobals "law" = some (some (.ref f47)))
    (l47 : K.lookup f47 = some ⟨oc47, od47, .func (W.fnOf "law" "law" (defArgs s_law) (defBody s_law) (defScope s_law) .none kV47 dc47 pm47 an47 cd47 ct47), sl47⟩)
    (c47 : W.codeIn K cd47 "law" = true) (k47 : W.keepIn K (.ref f47) = true)
    (ih0 : W.findIn K (.ref ca1) "is_past" = some (some (.ref f18)))
    (yp0 : W.specialIn K (.ref ca0) "__getattribute__" = some (some (.builtin "type.__getattribute__"))) (yr0 : W.readsIn K ca0 (.type "type") = true) (yf0 : W.findCls K (.ref ca0) (.type "type") "__init__" = some (.val (.ref f17)))
    (hgc0 : W.nsIn K mainGlobals "MOST_MUCH" = some (some (.int 1000 gt0)))
    (hgc1 : W.nsIn K mainGlobals "LAST_NUMBER" = some (some (.int 99 gt1)))
    (hgc2 : W.nsIn K mainGlobals "MOST_FIRST_SUM" = some (some (.int 1000 gt2)))
    (hgc3 : W.nsIn K mainGlobals "LEAST_PURSES" = some (some (.int 2 gt3)))
    (hgc4 : W.nsIn K mainGlobals "MOST_HOUSES" = some (some (.int 16 gt4)))
    (hgc5 : W.nsIn K mainGlobals "MOST_FEW" = some (some (.int 5 gt5)))
    (hgc6 : W.nsIn K mainGlobals "MOST_PURSES" = some (some (.int 8 gt6)))
    (hgc7 : W.nsIn K mainGlobals "ORDER_LETTER" = some (some (.str "order" gt7)))
    (xr0 : W.excIn K xa0 vErr "ValueError.__new__" = true)
    (xg0 : W.findIn K (.ref xa0) "__getattribute__" = some (some (.builtin "BaseException.__getattribute__"))) (xh0 : W.findIn K (.ref xa0) "__getattr__" = some none) (xj0 : W.findIn K (.ref xa0) "__class__" = some (some (.builtin "object.__class__")))
    (xp0 : W.mroIn K xa0 (.type "BaseException") = some true) (xo0 : W.mroIn K xa0 (.type "object") = some true) (xs0 : (W.clsIn K xa0).isSome = true)
    (xk0 : kinds K (.ref xa0) [.ref xa1, .ref xa4, .ref xa0, .ref xa2, .ref xa3, .ref xa6, .ref xa8, .ref xa7, .ref xa5, .ref xa10, .ref xa11, .ref xa9, .type "ValueError"] = [some false, some false, some true, some false, some false, some false, some false, some false, some false, some false, some false, some true, some true])
    (xc0_0 : W.kitCls K (.ref xa0) (.ref xa9) = some true)
    (xc0_1 : W.kitCls K (.ref xa0) (.ref xa2) = some false)
    (xc0_2 : W.kitCls K (.ref xa0) (.ref xa3) = some false)
    (xr1 : W.excIn K xa1 vErr "ValueError.__new__" = true)
    (xg1 : W.findIn K (.ref xa1) "__getattribute__" = some (some (.builtin "BaseException.__getattribute__"))) (xh1 : W.findIn K (.ref xa1) "__getattr__" = some none) (xj1 : W.findIn K (.ref xa1) "__class__" = some (some (.builtin "object.__class__")))
    (xp1 : W.mroIn K xa1 (.type "BaseException") = some true) (xo1 : W.mroIn K xa1 (.type "object") = some true) (xs1 : (W.clsIn K xa1).isSome = true)
    (xk1 : kinds K (.ref xa1) [.ref xa1, .ref xa4, .ref xa0, .ref xa2, .ref xa3, .ref xa6, .ref xa8, .ref xa7, .ref xa5, .ref xa10, .ref xa11, .ref xa9, .type "ValueError"] = [some true, some false, some false, some false, some false, some false, some false, some false, some false, some false, some false, some true, some true])
    (xc1_0 : W.kitCls K (.ref xa1) (.ref xa9) = some true)
    (xc1_1 : W.kitCls K (.ref xa1) (.ref xa2) = some false)
    (xc1_2 : W.kitCls K (.ref xa1) (.ref xa3) = some false)
    (xg2 : W.findIn K (.ref xa2) "__getattribute__" = some (some (.builtin "BaseException.__getattribute__"))) (xh2 : W.findIn K (.ref xa2) "__getattr__" = some none) (xj2 : W.findIn K (.ref xa2) "__class__" = some (some (.builtin "object.__class__")))
    (xp2 : W.mroIn K xa2 (.type "BaseException") = some true) (xo2 : W.mroIn K xa2 (.type "object") = some true) (xs2 : (W.clsIn K xa2).isSome = true)
    (xk2 : kinds K (.ref xa2) [.ref xa1, .ref xa4, .ref xa0, .ref xa2, .ref xa3, .ref xa6, .ref xa8, .ref xa7, .ref xa5, .ref xa10, .ref xa11, .ref xa9, .type "ValueError"] = [some false, some false, some false, some true, some false, some false, some false, some false, some false, some false, some false, some true, some true])
    (xc2_0 : W.kitCls K (.ref xa2) (.ref xa9) = some true)
    (xc2_1 : W.kitCls K (.ref xa2) (.ref xa2) = some true)
    (xc2_2 : W.kitCls K (.ref xa2) (.ref xa3) = some false)
    (xg3 : W.findIn K (.ref xa3) "__getattribute__" = some (some (.builtin "BaseException.__getattribute__"))) (xh3 : W.findIn K (.ref xa3) "__getattr__" = some none) (xj3 : W.findIn K (.ref xa3) "__class__" = some (some (.builtin "object.__class__")))
    (xp3 : W.mroIn K xa3 (.type "BaseException") = some true) (xo3 : W.mroIn K xa3 (.type "object") = some true) (xs3 : (W.clsIn K xa3).isSome = true)
    (xk3 : kinds K (.ref xa3) [.ref xa1, .ref xa4, .ref xa0, .ref xa2, .ref xa3, .ref xa6, .ref xa8, .ref xa7, .ref xa5, .ref xa10, .ref xa11, .ref xa9, .type "ValueError"] = [some false, some false, some false, some false, some true, some false, some false, some false, some false, some false, some false, some true, some true])
    (xc3_0 : W.kitCls K (.ref xa3) (.ref xa9) = some true)
    (xc3_1 : W.kitCls K (.ref xa3) (.ref xa2) = some false)
    (xc3_2 : W.kitCls K (.ref xa3) (.ref xa3) = some true)
    (xr4 : W.excIn K xa4 vErr "ValueError.__new__" = true)
    (xg4 : W.findIn K (.ref xa4) "__getattribute__" = some (some (.builtin "BaseException.__getattribute__"))) (xh4 : W.findIn K (.ref xa4) "__getattr__" = some none) (xj4 : W.findIn K (.ref xa4) "__class__" = some (some (.builtin "object.__class__")))
    (xp4 : W.mroIn K xa4 (.type "BaseException") = some true) (xo4 : W.mroIn K xa4 (.type "object") = some true) (xs4 : (W.clsIn K xa4).isSome = true)
    (xk4 : kinds K (.ref xa4) [.ref xa1, .ref xa4, .ref xa0, .ref xa2, .ref xa3, .ref xa6, .ref xa8, .ref xa7, .ref xa5, .ref xa10, .ref xa11, .ref xa9, .type "ValueError"] = [some false, some true, some false, some false, some false, some false, some false, some false, some false, some false, some false, some true, some true])
    (xc4_0 : W.kitCls K (.ref xa4) (.ref xa9) = some true)
    (xc4_1 : W.kitCls K (.ref xa4) (.ref xa2) = some false)
    (xc4_2 : W.kitCls K (.ref xa4) (.ref xa3) = some false)
    (xr5 : W.excIn K xa5 vErr "ValueError.__new__" = true)
    (xg5 : W.findIn K (.ref xa5) "__getattribute__" = some (some (.builtin "BaseException.__getattribute__"))) (xh5 : W.findIn K (.ref xa5) "__getattr__" = some none) (xj5 : W.findIn K (.ref xa5) "__class__" = some (some (.builtin "object.__class__")))
    (xp5 : W.mroIn K xa5 (.type "BaseException") = some true) (xo5 : W.mroIn K xa5 (.type "object") = some true) (xs5 : (W.clsIn K xa5).isSome = true)
    (xk5 : kinds K (.ref xa5) [.ref xa1, .ref xa4, .ref xa0, .ref xa2, .ref xa3, .ref xa6, .ref xa8, .ref xa7, .ref xa5, .ref xa10, .ref xa11, .ref xa9, .type "ValueError"] = [some false, some false, some false, some false, some false, some false, some false, some false, some true, some false, some false, some true, some true])
    (xc5_0 : W.kitCls K (.ref xa5) (.ref xa9) = some true)
    (xc5_1 : W.kitCls K (.ref xa5) (.ref xa2) = some false)
    (xc5_2 : W.kitCls K (.ref xa5) (.ref xa3) = some false)
    (xr6 : W.excIn K xa6 vErr "ValueError.__new__" = true)
    (xg6 : W.findIn K (.ref xa6) "__getattribute__" = some (some (.builtin "BaseException.__getattribute__"))) (xh6 : W.findIn K (.ref xa6) "__getattr__" = some none) (xj6 : W.findIn K (.ref xa6) "__class__" = some (some (.builtin "object.__class__")))
    (xp6 : W.mroIn K xa6 (.type "BaseException") = some true) (xo6 : W.mroIn K xa6 (.type "object") = some true) (xs6 : (W.clsIn K xa6).isSome = true)
    (xk6 : kinds K (.ref xa6) [.ref xa1, .ref xa4, .ref xa0, .ref xa2, .ref xa3, .ref xa6, .ref xa8, .ref xa7, .ref xa5, .ref xa10, .ref xa11, .ref xa9, .type "ValueError"] = [some false, some false, some false, some false, some false, some true, some false, some false, some false, some false, some false, some true, some true])
    (xc6_0 : W.kitCls K (.ref xa6) (.ref xa9) = some true)
    (xc6_1 : W.kitCls K (.ref xa6) (.ref xa2) = some false)
    (xc6_2 : W.kitCls K (.ref xa6) (.ref xa3) = some false)
    (xr7 : W.excIn K xa7 vErr "ValueError.__new__" = true)
    (xg7 : W.findIn K (.ref xa7) "__getattribute__" = some (some (.builtin "BaseException.__getattribute__"))) (xh7 : W.findIn K (.ref xa7) "__getattr__" = some none) (xj7 : W.findIn K (.ref xa7) "__class__" = some (some (.builtin "object.__class__")))
    (xp7 : W.mroIn K xa7 (.type "BaseException") = some true) (xo7 : W.mroIn K xa7 (.type "object") = some true) (xs7 : (W.clsIn K xa7).isSome = true)
    (xk7 : kinds K (.ref xa7) [.ref xa1, .ref xa4, .ref xa0, .ref xa2, .ref xa3, .ref xa6, .ref xa8, .ref xa7, .ref xa5, .ref xa10, .ref xa11, .ref xa9, .type "ValueError"] = [some false, some false, some false, some false, some false, some false, some false, some true, some false, some false, some false, some true, some true])
    (xc7_0 : W.kitCls K (.ref xa7) (.ref xa9) = some true)
    (xc7_1 : W.kitCls K (.ref xa7) (.ref xa2) = some false)
    (xc7_2 : W.kitCls K (.ref xa7) (.ref xa3) = some false)
    (xr8 : W.excIn K xa8 vErr "ValueError.__new__" = true)
    (xg8 : W.findIn K (.ref xa8) "__getattribute__" = some (some (.builtin "BaseException.__getattribute__"))) (xh8 : W.findIn K (.ref xa8) "__getattr__" = some none) (xj8 : W.findIn K (.ref xa8) "__class__" = some (some (.builtin "object.__class__")))
    (xp8 : W.mroIn K xa8 (.type "BaseException") = some true) (xo8 : W.mroIn K xa8 (.type "object") = some true) (xs8 : (W.clsIn K xa8).isSome = true)
    (xk8 : kinds K (.ref xa8) [.ref xa1, .ref xa4, .ref xa0, .ref xa2, .ref xa3, .ref xa6, .ref xa8, .ref xa7, .ref xa5, .ref xa10, .ref xa11, .ref xa9, .type "ValueError"] = [some false, some false, some false, some false, some false, some false, some true, some false, some false, some false, some false, some true, some true])
    (xc8_0 : W.kitCls K (.ref xa8) (.ref xa9) = some true)
    (xc8_1 : W.kitCls K (.ref xa8) (.ref xa2) = some false)
    (xc8_2 : W.kitCls K (.ref xa8) (.ref xa3) = some false)
    (xb0 : W.mroIn K xa9 (.type "BaseException") = some true)
    (xb1 : W.mroIn K xa2 (.type "BaseException") = some true)
    (xb2 : W.mroIn K xa3 (.type "BaseException") = some true)
    (z0 : W.nsIn K mainGlobals "isinstance" = some none)
    (z1 : W.nsIn K mainGlobals "bool" = some none)
    (z2 : W.nsIn K mainGlobals "int" = some none)
    (z3 : W.nsIn K mainGlobals "len" = some none)
    (z4 : W.nsIn K mainGlobals "tuple" = some none)
    (z5 : W.nsIn K mainGlobals "all" = some none)
    (z6 : W.nsIn K mainGlobals "list" = some none)
    (z7 : W.nsIn K mainGlobals "sum" = some none)
    (z8 : W.nsIn K mainGlobals "range" = some none)
    (z9 : W.nsIn K mainGlobals "max" = some none)
    (z10 : W.nsIn K mainGlobals "ValueError" = some none) :
    Txt K mg ⟨f0, (W.fnOf "is_whole" "is_whole" (defArgs s_is_whole) (defBody s_is_whole) (defScope s_is_whole) .none kV0 dc0 pm0 an0 cd0 ct0), f1, (W.fnOf "is_between" "is_between" (defArgs s_is_between) (defBody s_is_between) (defScope s_is_between) .none kV1 dc1 pm1 an1 cd1 ct1), f2, (W.fnOf "is_order" "is_order" (defArgs s_is_order) (defBody s_is_order) (defScope s_is_order) .none kV2 dc2 pm2 an2 cd2 ct2), f3, (W.fnOf "are_rising" "are_rising" (defArgs s_are_rising) (defBody s_are_rising) (defScope s_are_rising) .none kV3 dc3 pm3 an3 cd3 ct3), f4, (W.fnOf "is_rising_row" "is_rising_row" (defArgs s_is_rising_row) (defBody s_is_rising_row) (defScope s_is_rising_row) .none kV4 dc4 pm4 an4 cd4 ct4), f5, (W.fnOf "is_house_count" "is_house_count" (defArgs s_is_house_count) (defBody s_is_house_count) (defScope s_is_house_count) .none kV5 dc5 pm5 an5 cd5 ct5), f6, (W.fnOf "is_few" "is_few" (defArgs s_is_few) (defBody s_is_few) (defScope s_is_few) .none kV6 dc6 pm6 an6 cd6 ct6), f7, (W.fnOf "outnumber" "outnumber" (defArgs s_outnumber) (defBody s_outnumber) (defScope s_outnumber) .none kV7 dc7 pm7 an7 cd7 ct7), f8, (W.fnOf "enough_of" "enough_of" (defArgs s_enough_of) (defBody s_enough_of) (defScope s_enough_of) .none kV8 dc8 pm8 an8 cd8 ct8), f9, (W.fnOf "are_sums" "are_sums" (defArgs s_are_sums) (defBody s_are_sums) (defScope s_are_sums) .none kV9 dc9 pm9 an9 cd9 ct9), f10, (W.fnOf "are_first_sums" "are_first_sums" (defArgs s_are_first_sums) (defBody s_are_first_sums) (defScope s_are_first_sums) .none kV10 dc10 pm10 an10 cd10 ct10), f11, (W.fnOf "__init__" "NoPurse.__init__" (defArgs s_NoPurse___init__) (defBody s_NoPurse___init__) (defScope s_NoPurse___init__) .none kV11 dc11 pm11 an11 cd11 ct11), f12, (W.fnOf "__init__" "NoHouse.__init__" (defArgs s_NoHouse___init__) (defBody s_NoHouse___init__) (defScope s_NoHouse___init__) .none kV12 dc12 pm12 an12 cd12 ct12), f13, (W.fnOf "check_houses" "check_houses" (defArgs s_check_houses) (defBody s_check_houses) (defScope s_check_houses) .none kV13 dc13 pm13 an13 cd13 ct13), f14, (W.fnOf "check_purses" "check_purses" (defArgs s_check_purses) (defBody s_check_purses) (defScope s_check_purses) .none kV14 dc14 pm14 an14 cd14 ct14), f15, (W.fnOf "__init__" "Board.__init__" (defArgs s_Board___init__) (defBody s_Board___init__) (defScope s_Board___init__) .none kV15 dc15 pm15 an15 cd15 ct15), f16, (W.fnOf "is_carried" "Board.is_carried" (defArgs s_Board_is_carried) (defBody s_Board_is_carried) (defScope s_Board_is_carried) .none kV16 dc16 pm16 an16 cd16 ct16), f17, (W.fnOf "__init__" "Book.__init__" (defArgs s_Book___init__) (defBody s_Book___init__) (defScope s_Book___init__) .none kV17 dc17 pm17 an17 cd17 ct17), f18, (W.fnOf "is_past" "Book.is_past" (defArgs s_Book_is_past) (defBody s_Book_is_past) (defScope s_Book_is_past) .none kV18 dc18 pm18 an18 cd18 ct18), f19, (W.fnOf "__init__" "Keeper.__init__" (defArgs s_Keeper___init__) (defBody s_Keeper___init__) (defScope s_Keeper___init__) .none kV19 dc19 pm19 an19 cd19 ct19), f20, (W.fnOf "left_of" "Keeper.left_of" (defArgs s_Keeper_left_of) (defBody s_Keeper_left_of) (defScope s_Keeper_left_of) .none kV20 dc20 pm20 an20 cd20 ct20), f21, (W.fnOf "__init__" "World.__init__" (defArgs s_World___init__) (defBody s_World___init__) (defScope s_World___init__) .none kV21 dc21 pm21 an21 cd21 ct21), f22, (W.fnOf "write_to_all" "World.write_to_all" (defArgs s_World_write_to_all) (defBody s_World_write_to_all) (defScope s_World_write_to_all) .none kV22 dc22 pm22 an22 cd22 ct22), f23, (W.fnOf "letters" "World.letters" (defArgs s_World_letters) (defBody s_World_letters) (defScope s_World_letters) .none kV23 dc23 pm23 an23 cd23 ct23), f24, (W.fnOf "keeper_of" "World.keeper_of" (defArgs s_World_keeper_of) (defBody s_World_keeper_of) (defScope s_World_keeper_of) .none kV24 dc24 pm24 an24 cd24 ct24), f25, (W.fnOf "check_liar" "World.check_liar" (defArgs s_World_check_liar) (defBody s_World_check_liar) (defScope s_World_check_liar) .none kV25 dc25 pm25 an25 cd25 ct25), f26, (W.fnOf "check_purse" "World.check_purse" (defArgs s_World_check_purse) (defBody s_World_check_purse) (defScope s_World_check_purse) .none kV26 dc26 pm26 an26 cd26 ct26), f27, (W.fnOf "check_asker" "World.check_asker" (defArgs s_World_check_asker) (defBody s_World_check_asker) (defScope s_World_check_asker) .none kV27 dc27 pm27 an27 cd27 ct27), f28, (W.fnOf "check_order" "World.check_order" (defArgs s_World_check_order) (defBody s_World_check_order) (defScope s_World_check_order) .none kV28 dc28 pm28 an28 cd28 ct28), f29, (W.fnOf "next_number" "World.next_number" (defArgs s_World_next_number) (defBody s_World_next_number) (defScope s_World_next_number) .none kV29 dc29 pm29 an29 cd29 ct29), f30, (W.fnOf "ask" "World.ask" (defArgs s_World_ask) (defBody s_World_ask) (defScope s_World_ask) .none kV30 dc30 pm30 an30 cd30 ct30), f31, (W.fnOf "cheat" "World.cheat" (defArgs s_World_cheat) (defBody s_World_cheat) (defScope s_World_cheat) .none kV31 dc31 pm31 an31 cd31 ct31), f32, (W.fnOf "lie" "World.lie" (defArgs s_World_lie) (defBody s_World_lie) (defScope s_World_lie) .none kV32 dc32 pm32 an32 cd32 ct32), f33, (W.fnOf "show" "World.show" (defArgs s_World_show) (defBody s_World_show) (defScope s_World_show) .none kV33 dc33 pm33 an33 cd33 ct33), f34, (W.fnOf "come" "World.come" (defArgs s_World_come) (defBody s_World_come) (defScope s_World_come) .none kV34 dc34 pm34 an34 cd34 ct34), f35, (W.fnOf "sums" "World.sums" (defArgs s_World_sums) (defBody s_World_sums) (defScope s_World_sums) .none kV35 dc35 pm35 an35 cd35 ct35), f36, (W.fnOf "voted" "World.voted" (defArgs s_World_voted) (defBody s_World_voted) (defScope s_World_voted) .none kV36 dc36 pm36 an36 cd36 ct36), f37, (W.fnOf "paper" "World.paper" (defArgs s_World_paper) (defBody s_World_paper) (defScope s_World_paper) .none kV37 dc37 pm37 an37 cd37 ct37), f38, (W.fnOf "_law_town" "_law_town" (defArgs s__law_town) (defBody s__law_town) (defScope s__law_town) .none kV38 dc38 pm38 an38 cd38 ct38), f39, (W.fnOf "_law_draw" "_law_draw" (defArgs s__law_draw) (defBody s__law_draw) (defScope s__law_draw) .none kV39 dc39 pm39 an39 cd39 ct39), f40, (W.fnOf "_law_pick" "_law_pick" (defArgs s__law_pick) (defBody s__law_pick) (defScope s__law_pick) .none kV40 dc40 pm40 an40 cd40 ct40), f41, (W.fnOf "_law_refusal" "_law_refusal" (defArgs s__law_refusal) (defBody s__law_refusal) (defScope s__law_refusal) .none kV41 dc41 pm41 an41 cd41 ct41), f42, (W.fnOf "_law_made" "_law_made" (defArgs s__law_made) (defBody s__law_made) (defScope s__law_made) .none kV42 dc42 pm42 an42 cd42 ct42), f43, (W.fnOf "_law_did" "_law_did" (defArgs s__law_did) (defBody s__law_did) (defScope s__law_did) .none kV43 dc43 pm43 an43 cd43 ct43), f44, (W.fnOf "_law_asked" "_law_asked" (defArgs s__law_asked) (defBody s__law_asked) (defScope s__law_asked) .none kV44 dc44 pm44 an44 cd44 ct44), f45, (W.fnOf "_law_not_made" "_law_not_made" (defArgs s__law_not_made) (defBody s__law_not_made) (defScope s__law_not_made) .none kV45 dc45 pm45 an45 cd45 ct45), f46, (W.fnOf "_law_bad_ones" "_law_bad_ones" (defArgs s__law_bad_ones) (defBody s__law_bad_ones) (defScope s__law_bad_ones) .none kV46 dc46 pm46 an46 cd46 ct46), f47, (W.fnOf "law" "law" (defArgs s_law) (defBody s_law) (defScope s_law) .none kV47 dc47 pm47 an47 cd47 ct47), ca0, ca1, ca2, ca3, xa0, xa1, xa2, xa3, xa4, xa5, xa6, xa7, xa8, xa9, xa10, xa11⟩ where
  F_is_whole := fun_mk (st := s_is_whole) l0 c0 k0
  m_is_whole := W.mg_of X G a0
  b_is_whole := (fun_mk (st := s_is_whole) l0 c0 k0).binds (ps := ["thing"]) fun _ _ _ _ _ _ us hl => match us, hl with | [_], _ => rfl
  F_is_between := fun_mk (st := s_is_between) l1 c1 k1
  m_is_between := W.mg_of X G a1
  b_is_between := (fun_mk (st := s_is_between) l1 c1 k1).binds (ps := ["thing", "low", "high"]) fun _ _ _ _ _ _ us hl => match us, hl with | [_, _, _], _ => rfl
  F_is_order := fun_mk (st := s_is_order) l2 c2 k2
  m_is_order := W.mg_of X G a2
  bk0_is_order := ⟨fun s us ws _ hl => match us, ws, hl with | [_], [_], _ => .of_eq rfl, fun {vs us zs ws} r1 r2 => kb_rel11 r1 r2⟩
  F_are_rising := fun_mk (st := s_are_rising) l3 c3 k3
  m_are_rising := W.mg_of X G a3
  b_are_rising := (fun_mk (st := s_are_rising) l3 c3 k3).binds (ps := ["things", "bound"]) fun _ _ _ _ _ _ us hl => match us, hl with | [_, _], _ => rfl
  F_is_rising_row := fun_mk (st := s_is_rising_row) l4 c4 k4
  m_is_rising_row := W.mg_of X G a4
  b_is_rising_row := (fun_mk (st := s_is_rising_row) l4 c4 k4).binds (ps := ["thing", "bound"]) fun _ _ _ _ _ _ us hl => match us, hl with | [_, _], _ => rfl
  F_is_house_count := fun_mk (st := s_is_house_count) l5 c5 k5
  m_is_house_count := W.mg_of X G a5
  b_is_house_count := (fun_mk (st := s_is_house_count) l5 c5 k5).binds (ps := ["thing"]) fun _ _ _ _ _ _ us hl => match us, hl with | [_], _ => rfl
  F_is_few := fun_mk (st := s_is_few) l6 c6 k6
  m_is_few := W.mg_of X G a6
  b_is_few := (fun_mk (st := s_is_few) l6 c6 k6).binds (ps := ["thing"]) fun _ _ _ _ _ _ us hl => match us, hl with | [_], _ => rfl
  F_outnumber := fun_mk (st := s_outnumber) l7 c7 k7
  m_outnumber := W.mg_of X G a7
  bk0_outnumber := ⟨fun s us ws _ hl => match us, ws, hl with | [_], [_], _ => .of_eq rfl, fun {vs us zs ws} r1 r2 => kb_rel11 r1 r2⟩
  F_enough_of := fun_mk (st := s_enough_of) l8 c8 k8
  m_enough_of := W.mg_of X G a8
  bk0_enough_of := ⟨fun s us ws _ hl => match us, ws, hl with | [_], [_], _ => .of_eq rfl, fun {vs us zs ws} r1 r2 => kb_rel11 r1 r2⟩
  F_are_sums := fun_mk (st := s_are_sums) l9 c9 k9
  m_are_sums := W.mg_of X G a9
  b_are_sums := (fun_mk (st := s_are_sums) l9 c9 k9).binds (ps := ["thing"]) fun _ _ _ _ _ _ us hl => match us, hl with | [_], _ => rfl
  F_are_first_sums := fun_mk (st := s_are_first_sums) l10 c10 k10
  m_are_first_sums := W.mg_of X G a10
  b_are_first_sums := (fun_mk (st := s_are_first_sums) l10 c10 k10).binds (ps := ["thing"]) fun _ _ _ _ _ _ us hl => match us, hl with | [_], _ => rfl
  F_NoPurse___init__ := fun_mk (st := s_NoPurse___init__) l11 c11 k11
  xin_NoPurse := ⟨xrn11, a11, xd11a, xd11b, xd11c, xd11d⟩
  b_NoPurse___init__ := (fun_mk (st := s_NoPurse___init__) l11 c11 k11).binds (ps := ["self", "purse"]) fun _ _ _ _ _ _ us hl => match us, hl with | [_, _], _ => rfl
  F_NoHouse___init__ := fun_mk (st := s_NoHouse___init__) l12 c12 k12
  xin_NoHouse := ⟨xrn12, a12, xd12a, xd12b, xd12c, xd12d⟩
  b_NoHouse___init__ := (fun_mk (st := s_NoHouse___init__) l12 c12 k12).binds (ps := ["self", "house"]) fun _ _ _ _ _ _ us hl => match us, hl with | [_, _], _ => rfl
  F_check_houses := fun_mk (st := s_check_houses) l13 c13 k13
  m_check_houses := W.mg_of X G a13
  bk0_check_houses := ⟨fun s us ws _ hl => match us, ws, hl with | [_], [_, _], _ => .of_eq rfl, fun {vs us zs ws} r1 r2 => kb_rel12 r1 r2⟩
  F_check_purses := fun_mk (st := s_check_purses) l14 c14 k14
  m_check_purses := W.mg_of X G a14
  bk0_check_purses := ⟨fun s us ws _ hl => match us, ws, hl with | [_], [_], _ => .of_eq rfl, fun {vs us zs ws} r1 r2 => kb_rel11 r1 r2⟩
  F_Board___init__ := fun_mk (st := s_Board___init__) l15 c15 k15
  mt_Board___init__ := ⟨a15, n15, k15⟩
  mk_Board := ⟨mk15, a15, n15, mq15⟩
  b_Board___init__ := (fun_mk (st := s_Board___init__) l15 c15 k15).binds (ps := ["self", "enough"]) fun _ _ _ _ _ _ us hl => match us, hl with | [_, _], _ => rfl
  F_Board_is_carried := fun_mk (st := s_Board_is_carried) l16 c16 k16
  mt_Board_is_carried := ⟨a16, n16, k16⟩
  b_Board_is_carried := (fun_mk (st := s_Board_is_carried) l16 c16 k16).binds (ps := ["self", "thing"]) fun _ _ _ _ _ _ us hl => match us, hl with | [_, _], _ => rfl
  F_Book___init__ := fun_mk (st := s_Book___init__) l17 c17 k17
  mt_Book___init__ := ⟨a17, n17, k17⟩
  mk_Book := ⟨mk17, a17, n17, mq17⟩
  b_Book___init__ := (fun_mk (st := s_Book___init__) l17 c17 k17).binds (ps := ["self", "sums"]) fun _ _ _ _ _ _ us hl => match us, hl with | [_, _], _ => rfl
  F_Book_is_past := fun_mk (st := s_Book_is_past) l18 c18 k18
  mt_Book_is_past := ⟨a18, n18, k18⟩
  b_Book_is_past := (fun_mk (st := s_Book_is_past) l18 c18 k18).binds (ps := ["self", "order"]) fun _ _ _ _ _ _ us hl => match us, hl with | [_, _], _ => rfl
  F_Keeper___init__ := fun_mk (st := s_Keeper___init__) l19 c19 k19
  mt_Keeper___init__ := ⟨a19, n19, k19⟩
  mk_Keeper := ⟨mk19, a19, n19, mq19⟩
  b_Keeper___init__ := (fun_mk (st := s_Keeper___init__) l19 c19 k19).binds (ps := ["self", "sums"]) fun _ _ _ _ _ _ us hl => match us, hl with | [_, _], _ => rfl
  F_Keeper_left_of := fun_mk (st := s_Keeper_left_of) l20 c20 k20
  mt_Keeper_left_of := ⟨a20, n20, k20⟩
  b_Keeper_left_of := (fun_mk (st := s_Keeper_left_of) l20 c20 k20).binds (ps := ["self", "purse", "orders"]) fun _ _ _ _ _ _ us hl => match us, hl with | [_, _, _], _ => rfl
  F_World___init__ := fun_mk (st := s_World___init__) l21 c21 k21
  mt_World___init__ := ⟨a21, n21, k21⟩
  mk_World := ⟨mk21, a21, n21, mq21⟩
  bk0_World___init__ := ⟨fun s us ws _ hl => match us, ws, hl with | [_, _], [_, _, _, _], _ => .of_eq rfl, fun {vs us zs ws} r1 r2 => kb_rel24 r1 r2⟩
  F_World_write_to_all := fun_mk (st := s_World_write_to_all) l22 c22 k22
  mt_World_write_to_all := ⟨a22, n22, k22⟩
  b_World_write_to_all := (fun_mk (st := s_World_write_to_all) l22 c22 k22).binds (ps := ["self", "word", "order"]) fun _ _ _ _ _ _ us hl => match us, hl with | [_, _, _], _ => rfl
  F_World_letters := fun_mk (st := s_World_letters) l23 c23 k23
  mt_World_letters := ⟨a23, n23, k23⟩
  b_World_letters := (fun_mk (st := s_World_letters) l23 c23 k23).binds (ps := ["self"]) fun _ _ _ _ _ _ us hl => match us, hl with | [_], _ => rfl
  F_World_keeper_of := fun_mk (st := s_World_keeper_of) l24 c24 k24
  mt_World_keeper_of := ⟨a24, n24, k24⟩
  b_World_keeper_of := (fun_mk (st := s_World_keeper_of) l24 c24 k24).binds (ps := ["self", "house"]) fun _ _ _ _ _ _ us hl => match us, hl with | [_, _], _ => rfl
  F_World_check_liar := fun_mk (st := s_World_check_liar) l25 c25 k25
  mt_World_check_liar := ⟨a25, n25, k25⟩
  b_World_check_liar := (fun_mk (st := s_World_check_liar) l25 c25 k25).binds (ps := ["self", "liar"]) fun _ _ _ _ _ _ us hl => match us, hl with | [_, _], _ => rfl
  F_World_check_purse := fun_mk (st := s_World_check_purse) l26 c26 k26
  mt_World_check_purse := ⟨a26, n26, k26⟩
  b_World_check_purse := (fun_mk (st := s_World_check_purse) l26 c26 k26).binds (ps := ["self", "purse"]) fun _ _ _ _ _ _ us hl => match us, hl with | [_, _], _ => rfl
  F_World_check_asker := fun_mk (st := s_World_check_asker) l27 c27 k27
  mt_World_check_asker := ⟨a27, n27, k27⟩
  b_World_check_asker := (fun_mk (st := s_World_check_asker) l27 c27 k27).binds (ps := ["self", "purse", "goal"]) fun _ _ _ _ _ _ us hl => match us, hl with | [_, _, _], _ => rfl
  F_World_check_order := fun_mk (st := s_World_check_order) l28 c28 k28
  mt_World_check_order := ⟨a28, n28, k28⟩
  b_World_check_order := (fun_mk (st := s_World_check_order) l28 c28 k28).binds (ps := ["self", "order"]) fun _ _ _ _ _ _ us hl => match us, hl with | [_, _], _ => rfl
  F_World_next_number := fun_mk (st := s_World_next_number) l29 c29 k29
  mt_World_next_number := ⟨a29, n29, k29⟩
  b_World_next_number := (fun_mk (st := s_World_next_number) l29 c29 k29).binds (ps := ["self", "purse"]) fun _ _ _ _ _ _ us hl => match us, hl with | [_, _], _ => rfl
  F_World_ask := fun_mk (st := s_World_ask) l30 c30 k30
  mt_World_ask := ⟨a30, n30, k30⟩
  b_World_ask := (fun_mk (st := s_World_ask) l30 c30 k30).binds (ps := ["self", "purse", "goal", "much"]) fun _ _ _ _ _ _ us hl => match us, hl with | [_, _, _, _], _ => rfl
  F_World_cheat := fun_mk (st := s_World_cheat) l31 c31 k31
  mt_World_cheat := ⟨a31, n31, k31⟩
  b_World_cheat := (fun_mk (st := s_World_cheat) l31 c31 k31).binds (ps := ["self", "order", "house"]) fun _ _ _ _ _ _ us hl => match us, hl with | [_, _, _], _ => rfl
  F_World_lie := fun_mk (st := s_World_lie) l32 c32 k32
  mt_World_lie := ⟨a32, n32, k32⟩
  b_World_lie := (fun_mk (st := s_World_lie) l32 c32 k32).binds (ps := ["self", "liar", "order"]) fun _ _ _ _ _ _ us hl => match us, hl with | [_, _, _], _ => rfl
  F_World_show := fun_mk (st := s_World_show) l33 c33 k33
  mt_World_show := ⟨a33, n33, k33⟩
  b_World_show := (fun_mk (st := s_World_show) l33 c33 k33).binds (ps := ["self", "order", "house"]) fun _ _ _ _ _ _ us hl => match us, hl with | [_, _, _], _ => rfl
  F_World_come := fun_mk (st := s_World_come) l34 c34 k34
  mt_World_come := ⟨a34, n34, k34⟩
  b_World_come := (fun_mk (st := s_World_come) l34 c34 k34).binds (ps := ["self", "at"]) fun _ _ _ _ _ _ us hl => match us, hl with | [_, _], _ => rfl
  F_World_sums := fun_mk (st := s_World_sums) l35 c35 k35
  mt_World_sums := ⟨a35, n35, k35⟩
  b_World_sums := (fun_mk (st := s_World_sums) l35 c35 k35).binds (ps := ["self", "house"]) fun _ _ _ _ _ _ us hl => match us, hl with | [_, _], _ => rfl
  F_World_voted := fun_mk (st := s_World_voted) l36 c36 k36
  mt_World_voted := ⟨a36, n36, k36⟩
  b_World_voted := (fun_mk (st := s_World_voted) l36 c36 k36).binds (ps := ["self", "house", "purse", "number"]) fun _ _ _ _ _ _ us hl => match us, hl with | [_, _, _, _], _ => rfl
  F_World_paper := fun_mk (st := s_World_paper) l37 c37 k37
  mt_World_paper := ⟨a37, n37, k37⟩
  b_World_paper := (fun_mk (st := s_World_paper) l37 c37 k37).binds (ps := ["self", "order"]) fun _ _ _ _ _ _ us hl => match us, hl with | [_, _], _ => rfl
  F__law_town := fun_mk (st := s__law_town) l38 c38 k38
  m__law_town := W.mg_of X G a38
  b__law_town := (fun_mk (st := s__law_town) l38 c38 k38).binds (ps := ["_law_script"]) fun _ _ _ _ _ _ us hl => match us, hl with | [_], _ => rfl
  F__law_draw := fun_mk (st := s__law_draw) l39 c39 k39
  m__law_draw := W.mg_of X G a39
  b__law_draw := (fun_mk (st := s__law_draw) l39 c39 k39).binds (ps := ["_law_town_here", "_law_many"]) fun _ _ _ _ _ _ us hl => match us, hl with | [_, _], _ => rfl
  F__law_pick := fun_mk (st := s__law_pick) l40 c40 k40
  m__law_pick := W.mg_of X G a40
  b__law_pick := (fun_mk (st := s__law_pick) l40 c40 k40).binds (ps := ["_law_town_here", "_law_some"]) fun _ _ _ _ _ _ us hl => match us, hl with | [_, _], _ => rfl
  F__law_refusal := fun_mk (st := s__law_refusal) l41 c41 k41
  m__law_refusal := W.mg_of X G a41
  b__law_refusal := (fun_mk (st := s__law_refusal) l41 c41 k41).binds (ps := ["_law_caught"]) fun _ _ _ _ _ _ us hl => match us, hl with | [_], _ => rfl
  F__law_made := fun_mk (st := s__law_made) l42 c42 k42
  m__law_made := W.mg_of X G a42
  b__law_made := (fun_mk (st := s__law_made) l42 c42 k42).binds (ps := ["_law_crew", "_law_some", "_law_begin", "_law_foes", "_law_rogues"]) fun _ _ _ _ _ _ us hl => match us, hl with | [_, _, _, _, _], _ => rfl
  F__law_did := fun_mk (st := s__law_did) l43 c43 k43
  m__law_did := W.mg_of X G a43
  b__law_did := (fun_mk (st := s__law_did) l43 c43 k43).binds (ps := ["_law_world", "_law_kind", "_law_one", "_law_two", "_law_three"]) fun _ _ _ _ _ _ us hl => match us, hl with | [_, _, _, _, _], _ => rfl
  F__law_asked := fun_mk (st := s__law_asked) l44 c44 k44
  m__law_asked := W.mg_of X G a44
  b__law_asked := (fun_mk (st := s__law_asked) l44 c44 k44).binds (ps := ["_law_world", "_law_kind", "_law_one", "_law_two", "_law_three"]) fun _ _ _ _ _ _ us hl => match us, hl with | [_, _, _, _, _], _ => rfl
  F__law_not_made := fun_mk (st := s__law_not_made) l45 c45 k45
  m__law_not_made := W.mg_of X G a45
  b__law_not_made := (fun_mk (st := s__law_not_made) l45 c45 k45).binds (ps := ["_law_town_here"]) fun _ _ _ _ _ _ us hl => match us, hl with | [_], _ => rfl
  F__law_bad_ones := fun_mk (st := s__law_bad_ones) l46 c46 k46
  m__law_bad_ones := W.mg_of X G a46
  b__law_bad_ones := (fun_mk (st := s__law_bad_ones) l46 c46 k46).binds (ps := ["_law_world"]) fun _ _ _ _ _ _ us hl => match us, hl with | [_], _ => rfl
  F_law := fun_mk (st := s_law) l47 c47 k47
  m_law := W.mg_of X G a47
  b_law := (fun_mk (st := s_law) l47 c47 k47).binds (ps := ["_law_script"]) fun _ _ _ _ _ _ us hl => match us, hl with | [_], _ => rfl
  c_MOST_MUCH := ⟨_, W.mg_of X G hgc0⟩
  c_LAST_NUMBER := ⟨_, W.mg_of X G hgc1⟩
  c_MOST_FIRST_SUM := ⟨_, W.mg_of X G hgc2⟩
  c_LEAST_PURSES := ⟨_, W.mg_of X G hgc3⟩
  c_MOST_HOUSES := ⟨_, W.mg_of X G hgc4⟩
  c_MOST_FEW := ⟨_, W.mg_of X G hgc5⟩
  c_MOST_PURSES := ⟨_, W.mg_of X G hgc6⟩
  c_ORDER_LETTER := ⟨_, W.mg_of X G hgc7⟩
  m_Book := W.mg_of X G cm0
  cl_Book := ⟨cg0, ch0, co0, cs0⟩
  na_Book_held := cn0_0
  na_Book_next_numbers := cn0_1
  na_Book_done := cn0_2
  m_Keeper := W.mg_of X G cm1
  cl_Keeper := ⟨cg1, ch1, co1, cs1⟩
  na_Keeper_held := cn1_0
  na_Keeper_next_numbers := cn1_1
  na_Keeper_done := cn1_2
  na_Keeper_heard := cn1_3
  na_Keeper_unvoted := cn1_4
  na_Keeper_choices := cn1_5
  na_Keeper_waiting := cn1_6
  m_Board := W.mg_of X G cm2
  cl_Board := ⟨cg2, ch2, co2, cs2⟩
  na_Board_enough := cn2_0
  na_Board_signers := cn2_1
  m_World := W.mg_of X G cm3
  cl_World := ⟨cg3, ch3, co3, cs3⟩
  na_World_purses := cn3_0
  na_World_total := cn3_1
  na_World_lying := cn3_2
  na_World_cheating := cn3_3
  na_World_keepers := cn3_4
  na_World_board := cn3_5
  na_World_asked := cn3_6
  na_World_on_way := cn3_7
  mt_Keeper_is_past := ⟨ih0, n18, k18⟩
  cm_Book___init__ := ⟨yp0, yr0, yf0, k17⟩
  m_BadHouses := W.mg_of X G xm0
  m_BadNumber := W.mg_of X G xm1
  m_NoHouse := W.mg_of X G xm2
  m_NoPurse := W.mg_of X G xm3
  m_BadOrder := W.mg_of X G xm4
  m_BadPaper := W.mg_of X G xm5
  m_NoLetter := W.mg_of X G xm6
  m_TooMuch := W.mg_of X G xm7
  m_NotNow := W.mg_of X G xm8
  m_PurseError := W.mg_of X G xm9
  m_BadCut := W.mg_of X G xm10
  m_BadText := W.mg_of X G xm11
  x_BadHouses := xr0
  xi_BadHouses := ⟨xg0, xh0, xj0, xp0, xo0, xs0⟩
  xk_BadHouses := xk0
  xc_BadHouses_PurseError := xc0_0
  xc_BadHouses_NoHouse := xc0_1
  xc_BadHouses_NoPurse := xc0_2
  x_BadNumber := xr1
  xi_BadNumber := ⟨xg1, xh1, xj1, xp1, xo1, xs1⟩
  xk_BadNumber := xk1
  xc_BadNumber_PurseError := xc1_0
  xc_BadNumber_NoHouse := xc1_1
  xc_BadNumber_NoPurse := xc1_2
  xi_NoHouse := ⟨xg2, xh2, xj2, xp2, xo2, xs2⟩
  xk_NoHouse := xk2
  xc_NoHouse_PurseError := xc2_0
  xc_NoHouse_NoHouse := xc2_1
  xc_NoHouse_NoPurse := xc2_2
  xi_NoPurse := ⟨xg3, xh3, xj3, xp3, xo3, xs3⟩
  xk_NoPurse := xk3
  xc_NoPurse_PurseError := xc3_0
  xc_NoPurse_NoHouse := xc3_1
  xc_NoPurse_NoPurse := xc3_2
  x_BadOrder := xr4
  xi_BadOrder := ⟨xg4, xh4, xj4, xp4, xo4, xs4⟩
  xk_BadOrder := xk4
  xc_BadOrder_PurseError := xc4_0
  xc_BadOrder_NoHouse := xc4_1
  xc_BadOrder_NoPurse := xc4_2
  x_BadPaper := xr5
  xi_BadPaper := ⟨xg5, xh5, xj5, xp5, xo5, xs5⟩
  xk_BadPaper := xk5
  xc_BadPaper_PurseError := xc5_0
  xc_BadPaper_NoHouse := xc5_1
  xc_BadPaper_NoPurse := xc5_2
  x_NoLetter := xr6
  xi_NoLetter := ⟨xg6, xh6, xj6, xp6, xo6, xs6⟩
  xk_NoLetter := xk6
  xc_NoLetter_PurseError := xc6_0
  xc_NoLetter_NoHouse := xc6_1
  xc_NoLetter_NoPurse := xc6_2
  x_TooMuch := xr7
  xi_TooMuch := ⟨xg7, xh7, xj7, xp7, xo7, xs7⟩
  xk_TooMuch := xk7
  xc_TooMuch_PurseError := xc7_0
  xc_TooMuch_NoHouse := xc7_1
  xc_TooMuch_NoPurse := xc7_2
  x_NotNow := xr8
  xi_NotNow := ⟨xg8, xh8, xj8, xp8, xo8, xs8⟩
  xk_NotNow := xk8
  xc_NotNow_PurseError := xc8_0
  xc_NotNow_NoHouse := xc8_1
  xc_NotNow_NoPurse := xc8_2
  be_PurseError := xb0
  be_NoHouse := xb1
  be_NoPurse := xb2
  n_isinstance := W.mg_none_of X G z0
  n_bool := W.mg_none_of X G z1
  n_int := W.mg_none_of X G z2
  n_len := W.mg_none_of X G z3
  n_tuple := W.mg_none_of X G z4
  n_all := W.mg_none_of X G z5
  n_list := W.mg_none_of X G z6
  n_sum := W.mg_none_of X G z7
  n_range := W.mg_none_of X G z8
  n_max := W.mg_none_of X G z9
  n_ValueError := W.mg_none_of X G z10
theorem all_mk {l : W.OpenLaw} {w : World} {K : W.Frag} {h : Heap} {mg : Str → Option Value} {fa : Addr} (X : K.In h) (G : h.Ns mainGlobals mg) (hfa : mg "law" = some (.ref fa))
    {ca0 : Addr}
    {ca1 : Addr}
    {ca2 : Addr}
    {ca3 : Addr}
    {xa0 : Addr}
    {xa1 : Addr}
    {xa2 : Addr}
    {xa3 : Addr}
    {xa4 : Addr}
    {xa5 : Addr}
    {xa6 : Addr}
    {xa7 : Addr}
    {xa8 : Addr}
    {xa9 : Addr}
    {xa10 : Addr}
    {xa11 : Addr}
    {f0 : Addr} {oc0 kV0 dc0 pm0 cd0 ct0 : Value} {od0 an0 : Option Addr} {sl0 : Array (Option Value)}
    {f1 : Addr} {oc1 kV1 dc1 pm1 cd1 ct1 : Value} {od1 an1 : Option Addr} {sl1 : Array (Option Value)}
    {f2 : Addr} {oc2 kV2 dc2 pm2 cd2 ct2 : Value} {od2 an2 : Option Addr} {sl2 : Array (Option Value)}
    {f3 : Addr} {oc3 kV3 dc3 pm3 cd3 ct3 : Value} {od3 an3 : Option Addr} {sl3 : Array (Option Value)}
    {f4 : Addr} {oc4 kV4 dc4 pm4 cd4 ct4 : Value} {od4 an4 : Option Addr} {sl4 : Array (Option Value)}
    {f5 : Addr} {oc5 kV5 dc5 pm5 cd5 ct5 : Value} {od5 an5 : Option Addr} {sl5 : Array (Option Value)}
    {f6 : Addr} {oc6 kV6 dc6 pm6 cd6 ct6 : Value} {od6 an6 : Option Addr} {sl6 : Array (Option Value)}
    {f7 : Addr} {oc7 kV7 dc7 pm7 cd7 ct7 : Value} {od7 an7 : Option Addr} {sl7 : Array (Option Value)}
    {f8 : Addr} {oc8 kV8 dc8 pm8 cd8 ct8 : Value} {od8 an8 : Option Addr} {sl8 : Array (Option Value)}
    {f9 : Addr} {oc9 kV9 dc9 pm9 cd9 ct9 : Value} {od9 an9 : Option Addr} {sl9 : Array (Option Value)}
    {f10 : Addr} {oc10 kV10 dc10 pm10 cd10 ct10 : Value} {od10 an10 : Option Addr} {sl10 : Array (Option Value)}
    {f11 : Addr} {oc11 kV11 dc11 pm11 cd11 ct11 : Value} {od11 an11 : Option Addr} {sl11 : Array (Option Value)}
    {f12 : Addr} {oc12 kV12 dc12 pm12 cd12 ct12 : Value} {od12 an12 : Option Addr} {sl12 : Array (Option Value)}
    {f13 : Addr} {oc13 kV13 dc13 pm13 cd13 ct13 : Value} {od13 an13 : Option Addr} {sl13 : Array (Option Value)}
    {f14 : Addr} {oc14 kV14 dc14 pm14 cd14 ct14 : Value} {od14 an14 : Option Addr} {sl14 : Array (Option Value)}
    {f15 : Addr} {oc15 kV15 dc15 pm15 cd15 ct15 : Value} {od15 an15 : Option Addr} {sl15 : Array (Option Value)}
    {f16 : Addr} {oc16 kV16 dc16 pm16 cd16 ct16 : Value} {od16 an16 : Option Addr} {sl16 : Array (Option Value)}
    {f17 : Addr} {oc17 kV17 dc17 pm17 cd17 ct17 : Value} {od17 an17 : Option Addr} {sl17 : Array (Option Value)}
    {f18 : Addr} {oc18 kV18 dc18 pm18 cd18 ct18 : Value} {od18 an18 : Option Addr} {sl18 : Array (Option Value)}
    {f19 : Addr} {oc19 kV19 dc19 pm19 cd19 ct19 : Value} {od19 an19 : Option Addr} {sl19 : Array (Option Value)}
    {f20 : Addr} {oc20 kV20 dc20 pm20 cd20 ct20 : Value} {od20 an20 : Option Addr} {sl20 : Array (Option Value)}
    {f21 : Addr} {oc21 kV21 dc21 pm21 cd21 ct21 : Value} {od21 an21 : Option Addr} {sl21 : Array (Option Value)}
    {f22 : Addr} {oc22 kV22 dc22 pm22 cd22 ct22 : Value} {od22 an22 : Option Addr} {sl22 : Array (Option Value)}
    {f23 : Addr} {oc23 kV23 dc23 pm23 cd23 ct23 : Value} {od23 an23 : Option Addr} {sl23 : Array (Option Value)}
    {f24 : Addr} {oc24 kV24 dc24 pm24 cd24 ct24 : Value} {od24 an24 : Option Addr} {sl24 : Array (Option Value)}
    {f25 : Addr} {oc25 kV25 dc25 pm25 cd25 ct25 : Value} {od25 an25 : Option Addr} {sl25 : Array (Option Value)}
    {f26 : Addr} {oc26 kV26 dc26 pm26 cd26 ct26 : Value} {od26 an26 : Option Addr} {sl26 : Array (Option Value)}
    {f27 : Addr} {oc27 kV27 dc27 pm27 cd27 ct27 : Value} {od27 an27 : Option Addr} {sl27 : Array (Option Value)}
    {f28 : Addr} {oc28 kV28 dc28 pm28 cd28 ct28 : Value} {od28 an28 : Option Addr} {sl28 : Array (Option Value)}
    {f29 : Addr} {oc29 kV29 dc29 pm29 cd29 ct29 : Value} {od29 an29 : Option Addr} {sl29 : Array (Option Value)}
    {f30 : Addr} {oc30 kV30 dc30 pm30 cd30 ct30 : Value} {od30 an30 : Option Addr} {sl30 : Array (Option Value)}
    {f31 : Addr} {oc31 kV31 dc31 pm31 cd31 ct31 : Value} {od31 an31 : Option Addr} {sl31 : Array (Option Value)}
    {f32 : Addr} {oc32 kV32 dc32 pm32 cd32 ct32 : Value} {od32 an32 : Option Addr} {sl32 : Array (Option Value)}
    {f33 : Addr} {oc33 kV33 dc33 pm33 cd33 ct33 : Value} {od33 an33 : Option Addr} {sl33 : Array (Option Value)}
    {f34 : Addr} {oc34 kV34 dc34 pm34 cd34 ct34 : Value} {od34 an34 : Option Addr} {sl34 : Array (Option Value)}
    {f35 : Addr} {oc35 kV35 dc35 pm35 cd35 ct35 : Value} {od35 an35 : Option Addr} {sl35 : Array (Option Value)}
    {f36 : Addr} {oc36 kV36 dc36 pm36 cd36 ct36 : Value} {od36 an36 : Option Addr} {sl36 : Array (Option Value)}
    {f37 : Addr} {oc37 kV37 dc37 pm37 cd37 ct37 : Value} {od37 an37 : Option Addr} {sl37 : Array (Option Value)}
    {f38 : Addr} {oc38 kV38 dc38 pm38 cd38 ct38 : Value} {od38 an38 : Option Addr} {sl38 : Array (Option Value)}
    {f39 : Addr} {oc39 kV39 dc39 pm39 cd39 ct39 : Value} {od39 an39 : Option Addr} {sl39 : Array (Option Value)}
    {f40 : Addr} {oc40 kV40 dc40 pm40 cd40 ct40 : Value} {od40 an40 : Option Addr} {sl40 : Array (Option Value)}
    {f41 : Addr} {oc41 kV41 dc41 pm41 cd41 ct41 : Value} {od41 an41 : Option Addr} {sl41 : Array (Option Value)}
    {f42 : Addr} {oc42 kV42 dc42 pm42 cd42 ct42 : Value} {od42 an42 : Option Addr} {sl42 : Array (Option Value)}
    {f43 : Addr} {oc43 kV43 dc43 pm43 cd43 ct43 : Value} {od43 an43 : Option Addr} {sl43 : Array (Option Value)}
    {f44 : Addr} {oc44 kV44 dc44 pm44 cd44 ct44 : Value} {od44 an44 : Option Addr} {sl44 : Array (Option Value)}
    {f45 : Addr} {oc45 kV45 dc45 pm45 cd45 ct45 : Value} {od45 an45 : Option Addr} {sl45 : Array (Option Value)}
    {f46 : Addr} {oc46 kV46 dc46 pm46 cd46 ct46 : Value} {od46 an46 : Option Addr} {sl46 : Array (Option Value)}
    {f47 : Addr} {oc47 kV47 dc47 pm47 cd47 ct47 : Value} {od47 an47 : Option Addr} {sl47 : Array (Option Value)}
    {gt0 : Tok}
    {gt1 : Tok}
    {gt2 : Tok}
    {gt3 : Tok}
    {gt4 : Tok}
    {gt5 : Tok}
    {gt6 : Tok}
    {gt7 : Tok}
    (cm0 : W.nsIn K mainGlobals "Book" = some (some (.ref ca0)))
    (cg0 : W.plainGet K ca0 Str.empty = true) (ch0 : W.hasDictIn K ca0 = true) (co0 : W.plainOver K ca0 = true) (cs0 : W.findIn K (.ref ca0) "__setattr__" = some (some (.builtin "object.__setattr__")))
    (cn0_0 : W.findIn K (.ref ca0) "held" = some none)
    (cn0_1 : W.findIn K (.ref ca0) "next_numbers" = some none)
    (cn0_2 : W.findIn K (.ref ca0) "done" = some none)
    (cm1 : W.nsIn K mainGlobals "Keeper" = some (some (.ref ca1)))
    (cg1 : W.plainGet K ca1 Str.empty = true) (ch1 : W.hasDictIn K ca1 = true) (co1 : W.plainOver K ca1 = true) (cs1 : W.findIn K (.ref ca1) "__setattr__" = some (some (.builtin "object.__setattr__")))
    (cn1_0 : W.findIn K (.ref ca1) "held" = some none)
    (cn1_1 : W.findIn K (.ref ca1) "next_numbers" = some none)
    (cn1_2 : W.findIn K (.ref ca1) "done" = some none)
    (cn1_3 : W.findIn K (.ref ca1) "heard" = some none)
    (cn1_4 : W.findIn K (.ref ca1) "unvoted" = some none)
    (cn1_5 : W.findIn K (.ref ca1) "choices" = some none)
    (cn1_6 : W.findIn K (.ref ca1) "waiting" = some none)
    (cm2 : W.nsIn K mainGlobals "Board" = some (some (.ref ca2)))
    (cg2 : W.plainGet K ca2 Str.empty = true) (ch2 : W.hasDictIn K ca2 = true) (co2 : W.plainOver K ca2 = true) (cs2 : W.findIn K (.ref ca2) "__setattr__" = some (some (.builtin "object.__setattr__")))
    (cn2_0 : W.findIn K (.ref ca2) "enough" = some none)
    (cn2_1 : W.findIn K (.ref ca2) "signers" = some none)
    (cm3 : W.nsIn K mainGlobals "World" = some (some (.ref ca3)))
    (cg3 : W.plainGet K ca3 Str.empty = true) (ch3 : W.hasDictIn K ca3 = true) (co3 : W.plainOver K ca3 = true) (cs3 : W.findIn K (.ref ca3) "__setattr__" = some (some (.builtin "object.__setattr__")))
    (cn3_0 : W.findIn K (.ref ca3) "purses" = some none)
    (cn3_1 : W.findIn K (.ref ca3) "total" = some none)
    (cn3_2 : W.findIn K (.ref ca3) "lying" = some none)
    (cn3_3 : W.findIn K (.ref ca3) "cheating" = some none)
    (cn3_4 : W.findIn K (.ref ca3) "keepers" = some none)
    (cn3_5 : W.findIn K (.ref ca3) "board" = some none)
    (cn3_6 : W.findIn K (.ref ca3) "asked" = some none)
    (cn3_7 : W.findIn K (.ref ca3) "on_way" = some none)
    (xm0 : W.nsIn K mainGlobals "BadHouses" = some (some (.ref xa0)))
    (xm1 : W.nsIn K mainGlobals "BadNumber" = some (some (.ref xa1)))
    (xm2 : W.nsIn K mainGlobals "NoHouse" = some (some (.ref xa2)))
    (xm3 : W.nsIn K mainGlobals "NoPurse" = some (some (.ref xa3)))
    (xm4 : W.nsIn K mainGlobals "BadOrder" = some (some (.ref xa4)))
    (xm5 : W.nsIn K mainGlobals "BadPaper" = some (some (.ref xa5)))
    (xm6 : W.nsIn K mainGlobals "NoLetter" = some (some (.ref xa6)))
    (xm7 : W.nsIn K mainGlobals "TooMuch" = some (some (.ref xa7)))
    (xm8 : W.nsIn K mainGlobals "NotNow" = some (some (.ref xa8)))
    (xm9 : W.nsIn K mainGlobals "PurseError" = some (some (.ref xa9)))
    (xm10 : W.nsIn K mainGlobals "BadCut" = some (some (.ref xa10)))
    (xm11 : W.nsIn K mainGlobals "BadText" = some (some (.ref xa11)))
    (a0 : W.nsIn K mainGlobals "is_whole" = some (some (.ref f0)))
    (l0 : K.lookup f0 = some ⟨oc0, od0, .func (W.fnOf "is_whole" "is_whole" (defArgs s_is_whole) (defBody s_is_whole) (defScope s_is_whole) .none kV0 dc0 pm0 an0 cd0 ct0), sl0⟩)
    (c0 : W.codeIn K cd0 "is_whole" = true) (k0 : W.keepIn K (.ref f0) = true)
    (a1 : W.nsIn K mainGlobals "is_between" = some (some (.ref f1)))
    (l1 : K.lookup f1 = some ⟨oc1, od1, .func (W.fnOf "is_between" "is_between" (defArgs s_is_between) (defBody s_is_between) (defScope s_is_between) .none kV1 dc1 pm1 an1 cd1 ct1), sl1⟩)
    (c1 : W.codeIn K cd1 "is_between" = true) (k1 : W.keepIn K (.ref f1) = true)
    (a2 : W.nsIn K mainGlobals "is_order" = some (some (.ref f2)))
    (l2 : K.lookup f2 = some ⟨oc2, od2, .func (W.fnOf "is_order" "is_order" (defArgs s_is_order) (defBody s_is_order) (defScope s_is_order) .none kV2 dc2 pm2 an2 cd2 ct2), sl2⟩)
    (c2 : W.codeIn K cd2 "is_order" = true) (k2 : W.keepIn K (.ref f2) = true)
    (a3 : W.nsIn K mainGlobals "are_rising" = some (some (.ref f3)))
    (l3 : K.lookup f3 = some ⟨oc3, od3, .func (W.fnOf "are_rising" "are_rising" (defArgs s_are_rising) (defBody s_are_rising) (defScope s_are_rising) .none kV3 dc3 pm3 an3 cd3 ct3), sl3⟩)
    (c3 : W.codeIn K cd3 "are_rising" = true) (k3 : W.keepIn K (.ref f3) = true)
    (a4 : W.nsIn K mainGlobals "is_rising_row" = some (some (.ref f4)))
    (l4 : K.lookup f4 = some ⟨oc4, od4, .func (W.fnOf "is_rising_row" "is_rising_row" (defArgs s_is_rising_row) (defBody s_is_rising_row) (defScope s_is_rising_row) .none kV4 dc4 pm4 an4 cd4 ct4), sl4⟩)
    (c4 : W.codeIn K cd4 "is_rising_row" = true) (k4 : W.keepIn K (.ref f4) = true)
    (a5 : W.nsIn K mainGlobals "is_house_count" = some (some (.ref f5)))
    (l5 : K.lookup f5 = some ⟨oc5, od5, .func (W.fnOf "is_house_count" "is_house_count" (defArgs s_is_house_count) (defBody s_is_house_count) (defScope s_is_house_count) .none kV5 dc5 pm5 an5 cd5 ct5), sl5⟩)
    (c5 : W.codeIn K cd5 "is_house_count" = true) (k5 : W.keepIn K (.ref f5) = true)
    (a6 : W.nsIn K mainGlobals "is_few" = some (some (.ref f6)))
    (l6 : K.lookup f6 = some ⟨oc6, od6, .func (W.fnOf "is_few" "is_few" (defArgs s_is_few) (defBody s_is_few) (defScope s_is_few) .none kV6 dc6 pm6 an6 cd6 ct6), sl6⟩)
    (c6 : W.codeIn K cd6 "is_few" = true) (k6 : W.keepIn K (.ref f6) = true)
    (a7 : W.nsIn K mainGlobals "outnumber" = some (some (.ref f7)))
    (l7 : K.lookup f7 = some ⟨oc7, od7, .func (W.fnOf "outnumber" "outnumber" (defArgs s_outnumber) (defBody s_outnumber) (defScope s_outnumber) .none kV7 dc7 pm7 an7 cd7 ct7), sl7⟩)
    (c7 : W.codeIn K cd7 "outnumber" = true) (k7 : W.keepIn K (.ref f7) = true)
    (a8 : W.nsIn K mainGlobals "enough_of" = some (some (.ref f8)))
    (l8 : K.lookup f8 = some ⟨oc8, od8, .func (W.fnOf "enough_of" "enough_of" (defArgs s_enough_of) (defBody s_enough_of) (defScope s_enough_of) .none kV8 dc8 pm8 an8 cd8 ct8), sl8⟩)
    (c8 : W.codeIn K cd8 "enough_of" = true) (k8 : W.keepIn K (.ref f8) = true)
    (a9 : W.nsIn K mainGlobals "are_sums" = some (some (.ref f9)))
    (l9 : K.lookup f9 = some ⟨oc9, od9, .func (W.fnOf "are_sums" "are_sums" (defArgs s_are_sums) (defBody s_are_sums) (defScope s_are_sums) .none kV9 dc9 pm9 an9 cd9 ct9), sl9⟩)
    (c9 : W.codeIn K cd9 "are_sums" = true) (k9 : W.keepIn K (.ref f9) = true)
    (a10 : W.nsIn K mainGlobals "are_first_sums" = some (some (.ref f10)))
    (l10 : K.lookup f10 = some ⟨oc10, od10, .func (W.fnOf "are_first_sums" "are_first_sums" (defArgs s_are_first_sums) (defBody s_are_first_sums) (defScope s_are_first_sums) .none kV10 dc10 pm10 an10 cd10 ct10), sl10⟩)
    (c10 : W.codeIn K cd10 "are_first_sums" = true) (k10 : W.keepIn K (.ref f10) = true)
    (a11 : W.findIn K (.ref xa3) "__init__" = some (some (.ref f11)))
    (l11 : K.lookup f11 = some ⟨oc11, od11, .func (W.fnOf "__init__" "NoPurse.__init__" (defArgs s_NoPurse___init__) (defBody s_NoPurse___init__) (defScope s_NoPurse___init__) .none kV11 dc11 pm11 an11 cd11 ct11), sl11⟩)
    (c11 : W.codeIn K cd11 "NoPurse.__init__" = true) (k11 : W.keepIn K (.ref f11) = true)
    (xrn11 : initIn K xa3 f11 = true) (xd11a : W.findIn K (.ref xa3) "__setattr__" = some (some (.builtin "object.__setattr__"))) (xd11b : W.findIn K (.ref xa3) "__getattribute__" = some (some (.builtin "BaseException.__getattribute__"))) (xd11c : W.findIn K (.ref xa3) "__getattr__" = some none) (xd11d : W.findIn K (.ref xa3) "purse" = some none)
    (a12 : W.findIn K (.ref xa2) "__init__" = some (some (.ref f12)))
    (l12 : K.lookup f12 = some ⟨oc12, od12, .func (W.fnOf "__init__" "NoHouse.__init__" (defArgs s_NoHouse___init__) (defBody s_NoHouse___init__) (defScope s_NoHouse___init__) .none kV12 dc12 pm12 an12 cd12 ct12), sl12⟩)
    (c12 : W.codeIn K cd12 "NoHouse.__init__" = true) (k12 : W.keepIn K (.ref f12) = true)
    (xrn12 : initIn K xa2 f12 = true) (xd12a : W.findIn K (.ref xa2) "__setattr__" = some (some (.builtin "object.__setattr__"))) (xd12b : W.findIn K (.ref xa2) "__getattribute__" = some (some (.builtin "BaseException.__getattribute__"))) (xd12c : W.findIn K (.ref xa2) "__getattr__" = some none) (xd12d : W.findIn K (.ref xa2) "house" = some none)
    (a13 : W.nsIn K mainGlobals "check_houses" = some (some (.ref f13)))
    (l13 : K.lookup f13 = some ⟨oc13, od13, .func (W.fnOf "check_houses" "check_houses" (defArgs s_check_houses) (defBody s_check_houses) (defScope s_check_houses) .none kV13 dc13 pm13 an13 cd13 ct13), sl13⟩)
    (c13 : W.codeIn K cd13 "check_houses" = true) (k13 : W.keepIn K (.ref f13) = true)
    (a14 : W.nsIn K mainGlobals "check_purses" = some (some (.ref f14)))
    (l14 : K.lookup f14 = some ⟨oc14, od14, .func (W.fnOf "check_purses" "check_purses" (defArgs s_check_purses) (defBody s_check_purses) (defScope s_check_purses) .none kV14 dc14 pm14 an14 cd14 ct14), sl14⟩)
    (c14 : W.codeIn K cd14 "check_purses" = true) (k14 : W.keepIn K (.ref f14) = true)
    (a15 : W.findIn K (.ref ca2) "__init__" = some (some (.ref f15))) (n15 : W.isFn K (.ref f15) = true)
    (mk15 : W.makesIn K ca2 = true) (mq15 : W.keepIn K (.ref ca2) = true)
    (l15 : K.lookup f15 = some ⟨oc15, od15, .func (W.fnOf "__init__" "Board.__init__" (defArgs s_Board___init__) (defBody s_Board___init__) (defScope s_Board___init__) .none kV15 dc15 pm15 an15 cd15 ct15), sl15⟩)
    (c15 : W.codeIn K cd15 "Board.__init__" = true) (k15 : W.keepIn K (.ref f15) = true)
    (a16 : W.findIn K (.ref ca2) "is_carried" = some (some (.ref f16))) (n16 : W.isFn K (.ref f16) = true)
    (l16 : K.lookup f16 = some ⟨oc16, od16, .func (W.fnOf "is_carried" "Board.is_carried" (defArgs s_Board_is_carried) (defBody s_Board_is_carried) (defScope s_Board_is_carried) .none kV16 dc16 pm16 an16 cd16 ct16), sl16⟩)
    (c16 : W.codeIn K cd16 "Board.is_carried" = true) (k16 : W.keepIn K (.ref f16) = true)
    (a17 : W.findIn K (.ref ca0) "__init__" = some (some (.ref f17))) (n17 : W.isFn K (.ref f17) = true)
    (mk17 : W.makesIn K ca0 = true) (mq17 : W.keepIn K (.ref ca0) = true)
    (l17 : K.lookup f17 = some ⟨oc17, od17, .func (W.fnOf "__init__" "Book.__init__" (defArgs s_Book___init__) (defBody s_Book___init__) (defScope s_Book___init__) .none kV17 dc17 pm17 an17 cd17 ct17), sl17⟩)
    (c17 : W.codeIn K cd17 "Book.__init__" = true) (k17 : W.keepIn K (.ref f17) = true)
    (a18 : W.findIn K (.ref ca0) "is_past" = some (some (.ref f18))) (n18 : W.isFn K (.ref f18) = true)
    (l18 : K.lookup f18 = some ⟨oc18, od18, .func (W.fnOf "is_past" "Book.is_past" (defArgs s_Book_is_past) (defBody s_Book_is_past) (defScope s_Book_is_past) .none kV18 dc18 pm18 an18 cd18 ct18), sl18⟩)
    (c18 : W.codeIn K cd18 "Book.is_past" = true) (k18 : W.keepIn K (.ref f18) = true)
    (a19 : W.findIn K (.ref ca1) "__init__" = some (some (.ref f19))) (n19 : W.isFn K (.ref f19) = true)
    (mk19 : W.makesIn K ca1 = true) (mq19 : W.keepIn K (.ref ca1) = true)
    (l19 : K.lookup f19 = some ⟨oc19, od19, .func (W.fnOf "__init__" "Keeper.__init__" (defArgs s_Keeper___init__) (defBody s_Keeper___init__) (defScope s_Keeper___init__) .none kV19 dc19 pm19 an19 cd19 ct19), sl19⟩)
    (c19 : W.codeIn K cd19 "Keeper.__init__" = true) (k19 : W.keepIn K (.ref f19) = true)
    (a20 : W.findIn K (.ref ca1) "left_of" = some (some (.ref f20))) (n20 : W.isFn K (.ref f20) = true)
    (l20 : K.lookup f20 = some ⟨oc20, od20, .func (W.fnOf "left_of" "Keeper.left_of" (defArgs s_Keeper_left_of) (defBody s_Keeper_left_of) (defScope s_Keeper_left_of) .none kV20 dc20 pm20 an20 cd20 ct20), sl20⟩)
    (c20 : W.codeIn K cd20 "Keeper.left_of" = true) (k20 : W.keepIn K (.ref f20) = true)
    (a21 : W.findIn K (.ref ca3) "__init__" = some (some (.ref f21))) (n21 : W.isFn K (.ref f21) = true)
    (mk21 : W.makesIn K ca3 = true) (mq21 : W.keepIn K (.ref ca3) = true)
    (l21 : K.lookup f21 = some ⟨oc21, od21, .func (W.fnOf "__init__" "World.__init__" (defArgs s_World___init__) (defBody s_World___init__) (defScope s_World___init__) .none kV21 dc21 pm21 an21 cd21 ct21), sl21⟩)
    (c21 : W.codeIn K cd21 "World.__init__" = true) (k21 : W.keepIn K (.ref f21) = true)
    (a22 : W.findIn K (.ref ca3) "write_to_all" = some (some (.ref f22))) (n22 : W.isFn K (.ref f22) = true)
    (l22 : K.lookup f22 = some ⟨oc22, od22, .func (W.fnOf "write_to_all" "World.write_to_all" (defArgs s_World_write_to_all) (defBody s_World_write_to_all) (defScope s_World_write_to_all) .none kV22 dc22 pm22 an22 cd22 ct22), sl22⟩)
    (c22 : W.codeIn K cd22 "World.write_to_all" = true) (k22 : W.keepIn K (.ref f22) = true)
    (a23 : W.findIn K (.ref ca3) "letters" = some (some (.ref f23))) (n23 : W.isFn K (.ref f23) = true)
    (l23 : K.lookup f23 = some ⟨oc23, od23, .func (W.fnOf "letters" "World.letters" (defArgs s_World_letters) (defBody s_World_letters) (defScope s_World_letters) .none kV23 dc23 pm23 an23 cd23 ct23), sl23⟩)
    (c23 : W.codeIn K cd23 "World.letters" = true) (k23 : W.keepIn K (.ref f23) = true)
    (a24 : W.findIn K (.ref ca3) "keeper_of" = some (some (.ref f24))) (n24 : W.isFn K (.ref f24) = true)
    (l24 : K.lookup f24 = some ⟨oc24, od24, .func (W.fnOf "keeper_of" "World.keeper_of" (defArgs s_World_keeper_of) (defBody s_World_keeper_of) (defScope s_World_keeper_of) .none kV24 dc24 pm24 an24 cd24 ct24), sl24⟩)
    (c24 : W.codeIn K cd24 "World.keeper_of" = true) (k24 : W.keepIn K (.ref f24) = true)
    (a25 : W.findIn K (.ref ca3) "check_liar" = some (some (.ref f25))) (n25 : W.isFn K (.ref f25) = true)
    (l25 : K.lookup f25 = some ⟨oc25, od25, .func (W.fnOf "check_liar" "World.check_liar" (defArgs s_World_check_liar) (defBody s_World_check_liar) (defScope s_World_check_liar) .none kV25 dc25 pm25 an25 cd25 ct25), sl25⟩)
    (c25 : W.codeIn K cd25 "World.check_liar" = true) (k25 : W.keepIn K (.ref f25) = true)
    (a26 : W.findIn K (.ref ca3) "check_purse" = some (some (.ref f26))) (n26 : W.isFn K (.ref f26) = true)
    (l26 : K.lookup f26 = some ⟨oc26, od26, .func (W.fnOf "check_purse" "World.check_purse" (defArgs s_World_check_purse) (defBody s_World_check_purse) (defScope s_World_check_purse) .none kV26 dc26 pm26 an26 cd26 ct26), sl26⟩)
    (c26 : W.codeIn K cd26 "World.check_purse" = true) (k26 : W.keepIn K (.ref f26) = true)
    (a27 : W.findIn K (.ref ca3) "check_asker" = some (some (.ref f27))) (n27 : W.isFn K (.ref f27) = true)
    (l27 : K.lookup f27 = some ⟨oc27, od27, .func (W.fnOf "check_asker" "World.check_asker" (defArgs s_World_check_asker) (defBody s_World_check_asker) (defScope s_World_check_asker) .none kV27 dc27 pm27 an27 cd27 ct27), sl27⟩)
    (c27 : W.codeIn K cd27 "World.check_asker" = true) (k27 : W.keepIn K (.ref f27) = true)
    (a28 : W.findIn K (.ref ca3) "check_order" = some (some (.ref f28))) (n28 : W.isFn K (.ref f28) = true)
    (l28 : K.lookup f28 = some ⟨oc28, od28, .func (W.fnOf "check_order" "World.check_order" (defArgs s_World_check_order) (defBody s_World_check_order) (defScope s_World_check_order) .none kV28 dc28 pm28 an28 cd28 ct28), sl28⟩)
    (c28 : W.codeIn K cd28 "World.check_order" = true) (k28 : W.keepIn K (.ref f28) = true)
    (a29 : W.findIn K (.ref ca3) "next_number" = some (some (.ref f29))) (n29 : W.isFn K (.ref f29) = true)
    (l29 : K.lookup f29 = some ⟨oc29, od29, .func (W.fnOf "next_number" "World.next_number" (defArgs s_World_next_number) (defBody s_World_next_number) (defScope s_World_next_number) .none kV29 dc29 pm29 an29 cd29 ct29), sl29⟩)
    (c29 : W.codeIn K cd29 "World.next_number" = true) (k29 : W.keepIn K (.ref f29) = true)
    (a30 : W.findIn K (.ref ca3) "ask" = some (some (.ref f30))) (n30 : W.isFn K (.ref f30) = true)
    (l30 : K.lookup f30 = some ⟨oc30, od30, .func (W.fnOf "ask" "World.ask" (defArgs s_World_ask) (defBody s_World_ask) (defScope s_World_ask) .none kV30 dc30 pm30 an30 cd30 ct30), sl30⟩)
    (c30 : W.codeIn K cd30 "World.ask" = true) (k30 : W.keepIn K (.ref f30) = true)
    (a31 : W.findIn K (.ref ca3) "cheat" = some (some (.ref f31))) (n31 : W.isFn K (.ref f31) = true)
    (l31 : K.lookup f31 = some ⟨oc31, od31, .func (W.fnOf "cheat" "World.cheat" (defArgs s_World_cheat) (defBody s_World_cheat) (defScope s_World_cheat) .none kV31 dc31 pm31 an31 cd31 ct31), sl31⟩)
    (c31 : W.codeIn K cd31 "World.cheat" = true) (k31 : W.keepIn K (.ref f31) = true)
    (a32 : W.findIn K (.ref ca3) "lie" = some (some (.ref f32))) (n32 : W.isFn K (.ref f32) = true)
    (l32 : K.lookup f32 = some ⟨oc32, od32, .func (W.fnOf "lie" "World.lie" (defArgs s_World_lie) (defBody s_World_lie) (defScope s_World_lie) .none kV32 dc32 pm32 an32 cd32 ct32), sl32⟩)
    (c32 : W.codeIn K cd32 "World.lie" = true) (k32 : W.keepIn K (.ref f32) = true)
    (a33 : W.findIn K (.ref ca3) "show" = some (some (.ref f33))) (n33 : W.isFn K (.ref f33) = true)
    (l33 : K.lookup f33 = some ⟨oc33, od33, .func (W.fnOf "show" "World.show" (defArgs s_World_show) (defBody s_World_show) (defScope s_World_show) .none kV33 dc33 pm33 an33 cd33 ct33), sl33⟩)
    (c33 : W.codeIn K cd33 "World.show" = true) (k33 : W.keepIn K (.ref f33) = true)
    (a34 : W.findIn K (.ref ca3) "come" = some (some (.ref f34))) (n34 : W.isFn K (.ref f34) = true)
    (l34 : K.lookup f34 = some ⟨oc34, od34, .func (W.fnOf "come" "World.come" (defArgs s_World_come) (defBody s_World_come) (defScope s_World_come) .none kV34 dc34 pm34 an34 cd34 ct34), sl34⟩)
    (c34 : W.codeIn K cd34 "World.come" = true) (k34 : W.keepIn K (.ref f34) = true)
    (a35 : W.findIn K (.ref ca3) "sums" = some (some (.ref f35))) (n35 : W.isFn K (.ref f35) = true)
    (l35 : K.lookup f35 = some ⟨oc35, od35, .func (W.fnOf "sums" "World.sums" (defArgs s_World_sums) (defBody s_World_sums) (defScope s_World_sums) .none kV35 dc35 pm35 an35 cd35 ct35), sl35⟩)
    (c35 : W.codeIn K cd35 "World.sums" = true) (k35 : W.keepIn K (.ref f35) = true)
    (a36 : W.findIn K (.ref ca3) "voted" = some (some (.ref f36))) (n36 : W.isFn K (.ref f36) = true)
    (l36 : K.lookup f36 = some ⟨oc36, od36, .func (W.fnOf "voted" "World.voted" (defArgs s_World_voted) (defBody s_World_voted) (defScope s_World_voted) .none kV36 dc36 pm36 an36 cd36 ct36), sl36⟩)
    (c36 : W.codeIn K cd36 "World.voted" = true) (k36 : W.keepIn K (.ref f36) = true)
    (a37 : W.findIn K (.ref ca3) "paper" = some (some (.ref f37))) (n37 : W.isFn K (.ref f37) = true)
    (l37 : K.lookup f37 = some ⟨oc37, od37, .func (W.fnOf "paper" "World.paper" (defArgs s_World_paper) (defBody s_World_paper) (defScope s_World_paper) .none kV37 dc37 pm37 an37 cd37 ct37), sl37⟩)
    (c37 : W.codeIn K cd37 "World.paper" = true) (k37 : W.keepIn K (.ref f37) = true)
    (a38 : W.nsIn K mainGlobals "_law_town" = some (some (.ref f38)))
    (l38 : K.lookup f38 = some ⟨oc38, od38, .func (W.fnOf "_law_town" "_law_town" (defArgs s__law_town) (defBody s__law_town) (defScope s__law_town) .none kV38 dc38 pm38 an38 cd38 ct38), sl38⟩)
    (c38 : W.codeIn K cd38 "_law_town" = true) (k38 : W.keepIn K (.ref f38) = true)
    (a39 : W.nsIn K mainGlobals "_law_draw" = some (some (.ref f39)))
    (l39 : K.lookup f39 = some ⟨oc39, od39, .func (W.fnOf "_law_draw" "_law_draw" (defArgs s__law_draw) (defBody s__law_draw) (defScope s__law_draw) .none kV39 dc39 pm39 an39 cd39 ct39), sl39⟩)
    (c39 : W.codeIn K cd39 "_law_draw" = true) (k39 : W.keepIn K (.ref f39) = true)
    (a40 : W.nsIn K mainGlobals "_law_pick" = some (some (.ref f40)))
    (l40 : K.lookup f40 = some ⟨oc40, od40, .func (W.fnOf "_law_pick" "_law_pick" (defArgs s__law_pick) (defBody s__law_pick) (defScope s__law_pick) .none kV40 dc40 pm40 an40 cd40 ct40), sl40⟩)
    (c40 : W.codeIn K cd40 "_law_pick" = true) (k40 : W.keepIn K (.ref f40) = true)
    (a41 : W.nsIn K mainGlobals "_law_refusal" = some (some (.ref f41)))
    (l41 : K.lookup f41 = some ⟨oc41, od41, .func (W.fnOf "_law_refusal" "_law_refusal" (defArgs s__law_refusal) (defBody s__law_refusal) (defScope s__law_refusal) .none kV41 dc41 pm41 an41 cd41 ct41), sl41⟩)
    (c41 : W.codeIn K cd41 "_law_refusal" = true) (k41 : W.keepIn K (.ref f41) = true)
    (a42 : W.nsIn K mainGlobals "_law_made" = some (some (.ref f42)))
    (l42 : K.lookup f42 = some ⟨oc42, od42, .func (W.fnOf "_law_made" "_law_made" (defArgs s__law_made) (defBody s__law_made) (defScope s__law_made) .none kV42 dc42 pm42 an42 cd42 ct42), sl42⟩)
    (c42 : W.codeIn K cd42 "_law_made" = true) (k42 : W.keepIn K (.ref f42) = true)
    (a43 : W.nsIn K mainGlobals "_law_did" = some (some (.ref f43)))
    (l43 : K.lookup f43 = some ⟨oc43, od43, .func (W.fnOf "_law_did" "_law_did" (defArgs s__law_did) (defBody s__law_did) (defScope s__law_did) .none kV43 dc43 pm43 an43 cd43 ct43), sl43⟩)
    (c43 : W.codeIn K cd43 "_law_did" = true) (k43 : W.keepIn K (.ref f43) = true)
    (a44 : W.nsIn K mainGlobals "_law_asked" = some (some (.ref f44)))
    (l44 : K.lookup f44 = some ⟨oc44, od44, .func (W.fnOf "_law_asked" "_law_asked" (defArgs s__law_asked) (defBody s__law_asked) (defScope s__law_asked) .none kV44 dc44 pm44 an44 cd44 ct44), sl44⟩)
    (c44 : W.codeIn K cd44 "_law_asked" = true) (k44 : W.keepIn K (.ref f44) = true)
    (a45 : W.nsIn K mainGlobals "_law_not_made" = some (some (.ref f45)))
    (l45 : K.lookup f45 = some ⟨oc45, od45, .func (W.fnOf "_law_not_made" "_law_not_made" (defArgs s__law_not_made) (defBody s__law_not_made) (defScope s__law_not_made) .none kV45 dc45 pm45 an45 cd45 ct45), sl45⟩)
    (c45 : W.codeIn K cd45 "_law_not_made" = true) (k45 : W.keepIn K (.ref f45) = true)
    (a46 : W.nsIn K mainGlobals "_law_bad_ones" = some (some (.ref f46)))
    (l46 : K.lookup f46 = some ⟨oc46, od46, .func (W.fnOf "_law_bad_ones" "_law_bad_ones" (defArgs s__law_bad_ones) (defBody s__law_bad_ones) (defScope s__law_bad_ones) .none kV46 dc46 pm46 an46 cd46 ct46), sl46⟩)
    (c46 : W.codeIn K cd46 "_law_bad_ones" = true) (k46 : W.keepIn K (.ref f46) = true)
    (a47 : W.nsIn K mainGlobals "law" = some (some (.ref f47)))
    (l47 : K.lookup f47 = some ⟨oc47, od47, .func (W.fnOf "law" "law" (defArgs s_law) (defBody s_law) (defScope s_law) .none kV47 dc47 pm47 an47 cd47 ct47), sl47⟩)
    (c47 : W.codeIn K cd47 "law" = true) (k47 : W.keepIn K (.ref f47) = true)
    (ih0 : W.findIn K (.ref ca1) "is_past" = some (some (.ref f18)))
    (yp0 : W.specialIn K (.ref ca0) "__getattribute__" = some (some (.builtin "type.__getattribute__"))) (yr0 : W.readsIn K ca0 (.type "type") = true) (yf0 : W.findCls K (.ref ca0) (.type "type") "__init__" = some (.val (.ref f17)))
    (hgc0 : W.nsIn K mainGlobals "MOST_MUCH" = some (some (.int 1000 gt0)))
    (hgc1 : W.nsIn K mainGlobals "LAST_NUMBER" = some (some (.int 99 gt1)))
    (hgc2 : W.nsIn K mainGlobals "MOST_FIRST_SUM" = some (some (.int 1000 gt2)))
    (hgc3 : W.nsIn K mainGlobals "LEAST_PURSES" = some (some (.int 2 gt3)))
    (hgc4 : W.nsIn K mainGlobals "MOST_HOUSES" = some (some (.int 16 gt4)))
    (hgc5 : W.nsIn K mainGlobals "MOST_FEW" = some (some (.int 5 gt5)))
    (hgc6 : W.nsIn K mainGlobals "MOST_PURSES" = some (some (.int 8 gt6)))
    (hgc7 : W.nsIn K mainGlobals "ORDER_LETTER" = some (some (.str "order" gt7)))
    (xr0 : W.excIn K xa0 vErr "ValueError.__new__" = true)
    (xg0 : W.findIn K (.ref xa0) "__getattribute__" = some (some (.builtin "BaseException.__getattribute__"))) (xh0 : W.findIn K (.ref xa0) "__getattr__" = some none) (xj0 : W.findIn K (.ref xa0) "__class__" = some (some (.builtin "object.__class__")))
    (xp0 : W.mroIn K xa0 (.type "BaseException") = some true) (xo0 : W.mroIn K xa0 (.type "object") = some true) (xs0 : (W.clsIn K xa0).isSome = true)
    (xk0 : kinds K (.ref xa0) [.ref xa1, .ref xa4, .ref xa0, .ref xa2, .ref xa3, .ref xa6, .ref xa8, .ref xa7, .ref xa5, .ref xa10, .ref xa11, .ref xa9, .type "ValueError"] = [some false, some false, some true, some false, some false, some false, some false, some false, some false, some false, some false, some true, some true])
    (xc0_0 : W.kitCls K (.ref xa0) (.ref xa9) = some true)
    (xc0_1 : W.kitCls K (.ref xa0) (.ref xa2) = some false)
    (xc0_2 : W.kitCls K (.ref xa0) (.ref xa3) = some false)
    (xr1 : W.excIn K xa1 vErr "ValueError.__new__" = true)
    (xg1 : W.findIn K (.ref xa1) "__getattribute__" = some (some (.builtin "BaseException.__getattribute__"))) (xh1 : W.findIn K (.ref xa1) "__getattr__" = some none) (xj1 : W.findIn K (.ref xa1) "__class__" = some (some (.builtin "object.__class__")))
    (xp1 : W.mroIn K xa1 (.type "BaseException") = some true) (xo1 : W.mroIn K xa1 (.type "object") = some true) (xs1 : (W.clsIn K xa1).isSome = true)
    (xk1 : kinds K (.ref xa1) [.ref xa1, .ref xa4, .ref xa0, .ref xa2, .ref xa3, .ref xa6, .ref xa8, .ref xa7, .ref xa5, .ref xa10, .ref xa11, .ref xa9, .type "ValueError"] = [some true, some false, some false, some false, some false, some false, some false, some false, some false, some false, some false, some true, some true])
    (xc1_0 : W.kitCls K (.ref xa1) (.ref xa9) = some true)
    (xc1_1 : W.kitCls K (.ref xa1) (.ref xa2) = some false)
    (xc1_2 : W.kitCls K (.ref xa1) (.ref xa3) = some false)
    (xg2 : W.findIn K (.ref xa2) "__getattribute__" = some (some (.builtin "BaseException.__getattribute__"))) (xh2 : W.findIn K (.ref xa2) "__getattr__" = some none) (xj2 : W.findIn K (.ref xa2) "__class__" = some (some (.builtin "object.__class__")))
    (xp2 : W.mroIn K xa2 (.type "BaseException") = some true) (xo2 : W.mroIn K xa2 (.type "object") = some true) (xs2 : (W.clsIn K xa2).isSome = true)
    (xk2 : kinds K (.ref xa2) [.ref xa1, .ref xa4, .ref xa0, .ref xa2, .ref xa3, .ref xa6, .ref xa8, .ref xa7, .ref xa5, .ref xa10, .ref xa11, .ref xa9, .type "ValueError"] = [some false, some false, some false, some true, some false, some false, some false, some false, some false, some false, some false, some true, some true])
    (xc2_0 : W.kitCls K (.ref xa2) (.ref xa9) = some true)
    (xc2_1 : W.kitCls K (.ref xa2) (.ref xa2) = some true)
    (xc2_2 : W.kitCls K (.ref xa2) (.ref xa3) = some false)
    (xg3 : W.findIn K (.ref xa3) "__getattribute__" = some (some (.builtin "BaseException.__getattribute__"))) (xh3 : W.findIn K (.ref xa3) "__getattr__" = some none) (xj3 : W.findIn K (.ref xa3) "__class__" = some (some (.builtin "object.__class__")))
    (xp3 : W.mroIn K xa3 (.type "BaseException") = some true) (xo3 : W.mroIn K xa3 (.type "object") = some true) (xs3 : (W.clsIn K xa3).isSome = true)
    (xk3 : kinds K (.ref xa3) [.ref xa1, .ref xa4, .ref xa0, .ref xa2, .ref xa3, .ref xa6, .ref xa8, .ref xa7, .ref xa5, .ref xa10, .ref xa11, .ref xa9, .type "ValueError"] = [some false, some false, some false, some false, some true, some false, some false, some false, some false, some false, some false, some true, some true])
    (xc3_0 : W.kitCls K (.ref xa3) (.ref xa9) = some true)
    (xc3_1 : W.kitCls K (.ref xa3) (.ref xa2) = some false)
    (xc3_2 : W.kitCls K (.ref xa3) (.ref xa3) = some true)
    (xr4 : W.excIn K xa4 vErr "ValueError.__new__" = true)
    (xg4 : W.findIn K (.ref xa4) "__getattribute__" = some (some (.builtin "BaseException.__getattribute__"))) (xh4 : W.findIn K (.ref xa4) "__getattr__" = some none) (xj4 : W.findIn K (.ref xa4) "__class__" = some (some (.builtin "object.__class__")))
    (xp4 : W.mroIn K xa4 (.type "BaseException") = some true) (xo4 : W.mroIn K xa4 (.type "object") = some true) (xs4 : (W.clsIn K xa4).isSome = true)
    (xk4 : kinds K (.ref xa4) [.ref xa1, .ref xa4, .ref xa0, .ref xa2, .ref xa3, .ref xa6, .ref xa8, .ref xa7, .ref xa5, .ref xa10, .ref xa11, .ref xa9, .type "ValueError"] = [some false, some true, some false, some false, some false, some false, some false, some false, some false, some false, some false, some true, some true])
    (xc4_0 : W.kitCls K (.ref xa4) (.ref xa9) = some true)
    (xc4_1 : W.kitCls K (.ref xa4) (.ref xa2) = some false)
    (xc4_2 : W.kitCls K (.ref xa4) (.ref xa3) = some false)
    (xr5 : W.excIn K xa5 vErr "ValueError.__new__" = true)
    (xg5 : W.findIn K (.ref xa5) "__getattribute__" = some (some (.builtin "BaseException.__getattribute__"))) (xh5 : W.findIn K (.ref xa5) "__getattr__" = some none) (xj5 : W.findIn K (.ref xa5) "__class__" = some (some (.builtin "object.__class__")))
    (xp5 : W.mroIn K xa5 (.type "BaseException") = some true) (xo5 : W.mroIn K xa5 (.type "object") = some true) (xs5 : (W.clsIn K xa5).isSome = true)
    (xk5 : kinds K (.ref xa5) [.ref xa1, .ref xa4, .ref xa0, .ref xa2, .ref xa3, .ref xa6, .ref xa8, .ref xa7, .ref xa5, .ref xa10, .ref xa11, .ref xa9, .type "ValueError"] = [some false, some false, some false, some false, some false, some false, some false, some false, some true, some false, some false, some true, some true])
    (xc5_0 : W.kitCls K (.ref xa5) (.ref xa9) = some true)
    (xc5_1 : W.kitCls K (.ref xa5) (.ref xa2) = some false)
    (xc5_2 : W.kitCls K (.ref xa5) (.ref xa3) = some false)
    (xr6 : W.excIn K xa6 vErr "ValueError.__new__" = true)
    (xg6 : W.findIn K (.ref xa6) "__getattribute__" = some (some (.builtin "BaseException.__getattribute__"))) (xh6 : W.findIn K (.ref xa6) "__getattr__" = some none) (xj6 : W.findIn K (.ref xa6) "__class__" = some (some (.builtin "object.__class__")))
    (xp6 : W.mroIn K xa6 (.type "BaseException") = some true) (xo6 : W.mroIn K xa6 (.type "object") = some true) (xs6 : (W.clsIn K xa6).isSome = true)
    (xk6 : kinds K (.ref xa6) [.ref xa1, .ref xa4, .ref xa0, .ref xa2, .ref xa3, .ref xa6, .ref xa8, .ref xa7, .ref xa5, .ref xa10, .ref xa11, .ref xa9, .type "ValueError"] = [some false, some false, some false, some false, some false, some true, some false, some false, some false, some false, some false, some true, some true])
    (xc6_0 : W.kitCls K (.ref xa6) (.ref xa9) = some true)
    (xc6_1 : W.kitCls K (.ref xa6) (.ref xa2) = some false)
    (xc6_2 : W.kitCls K (.ref xa6) (.ref xa3) = some false)
    (xr7 : W.excIn K xa7 vErr "ValueError.__new__" = true)
    (xg7 : W.findIn K (.ref xa7) "__getattribute__" = some (some (.builtin "BaseException.__getattribute__"))) (xh7 : W.findIn K (.ref xa7) "__getattr__" = some none) (xj7 : W.findIn K (.ref xa7) "__class__" = some (some (.builtin "object.__class__")))
    (xp7 : W.mroIn K xa7 (.type "BaseException") = some true) (xo7 : W.mroIn K xa7 (.type "object") = some true) (xs7 : (W.clsIn K xa7).isSome = true)
    (xk7 : kinds K (.ref xa7) [.ref xa1, .ref xa4, .ref xa0, .ref xa2, .ref xa3, .ref xa6, .ref xa8, .ref xa7, .ref xa5, .ref xa10, .ref xa11, .ref xa9, .type "ValueError"] = [some false, some false, some false, some false, some false, some false, some false, some true, some false, some false, some false, some true, some true])
    (xc7_0 : W.kitCls K (.ref xa7) (.ref xa9) = some true)
    (xc7_1 : W.kitCls K (.ref xa7) (.ref xa2) = some false)
    (xc7_2 : W.kitCls K (.ref xa7) (.ref xa3) = some false)
    (xr8 : W.excIn K xa8 vErr "ValueError.__new__" = true)
    (xg8 : W.findIn K (.ref xa8) "__getattribute__" = some (some (.builtin "BaseException.__getattribute__"))) (xh8 : W.findIn K (.ref xa8) "__getattr__" = some none) (xj8 : W.findIn K (.ref xa8) "__class__" = some (some (.builtin "object.__class__")))
    (xp8 : W.mroIn K xa8 (.type "BaseException") = some true) (xo8 : W.mroIn K xa8 (.type "object") = some true) (xs8 : (W.clsIn K xa8).isSome = true)
    (xk8 : kinds K (.ref xa8) [.ref xa1, .ref xa4, .ref xa0, .ref xa2, .ref xa3, .ref xa6, .ref xa8, .ref xa7, .ref xa5, .ref xa10, .ref xa11, .ref xa9, .type "ValueError"] = [some false, some false, some false, some false, some false, some false, some true, some false, some false, some false, some false, some true, some true])
    (xc8_0 : W.kitCls K (.ref xa8) (.ref xa9) = some true)
    (xc8_1 : W.kitCls K (.ref xa8) (.ref xa2) = some false)
    (xc8_2 : W.kitCls K (.ref xa8) (.ref xa3) = some false)
    (xb0 : W.mroIn K xa9 (.type "BaseException") = some true)
    (xb1 : W.mroIn K xa2 (.type "BaseException") = some true)
    (xb2 : W.mroIn K xa3 (.type "BaseException") = some true)
    (z0 : W.nsIn K mainGlobals "isinstance" = some none)
    (z1 : W.nsIn K mainGlobals "bool" = some none)
    (z2 : W.nsIn K mainGlobals "int" = some none)
    (z3 : W.nsIn K mainGlobals "len" = some none)
    (z4 : W.nsIn K mainGlobals "tuple" = some none)
    (z5 : W.nsIn K mainGlobals "all" = some none)
    (z6 : W.nsIn K mainGlobals "list" = some none)
    (z7 : W.nsIn K mainGlobals "sum" = some none)
    (z8 : W.nsIn K mainGlobals "range" = some none)
    (z9 : W.nsIn K mainGlobals "max" = some none)
    (z10 : W.nsIn K mainGlobals "ValueError" = some none) :
    ∃ fd : FuncData, (∀ (s : Shared) (v : Value), BindsTo s fd ⟨[v], []⟩ [("_law_script", v)]) ∧ ∀ base : Heap, K.In base → base.Ns mainGlobals mg → FnOk l.prog w K mg base CX0 12 fa fd ["_law_script"] (sp_law K) := by
  have T := txt_mk X G cm0 cg0 ch0 co0 cs0 cn0_0 cn0_1 cn0_2 cm1 cg1 ch1 co1 cs1 cn1_0 cn1_1 cn1_2 cn1_3 cn1_4 cn1_5 cn1_6 cm2 cg2 ch2 co2 cs2 cn2_0 cn2_1 cm3 cg3 ch3 co3 cs3 cn3_0 cn3_1 cn3_2 cn3_3 cn3_4 cn3_5 cn3_6 cn3_7 xm0 xm1 xm2 xm3 xm4 xm5 xm6 xm7 xm8 xm9 xm10 xm11 a0 l0 c0 k0 a1 l1 c1 k1 a2 l2 c2 k2 a3 l3 c3 k3 a4 l4 c4 k4 a5 l5 c5 k5 a6 l6 c6 k6 a7 l7 c7 k7 a8 l8 c8 k8 a9 l9 c9 k9 a10 l10 c10 k10 a11 l11 c11 k11 xrn11 xd11a xd11b xd11c xd11d a12 l12 c12 k12 xrn12 xd12a xd12b xd12c xd12d a13 l13 c13 k13 a14 l14 c14 k14 a15 n15 mk15 mq15 l15 c15 k15 a16 n16 l16 c16 k16 a17 n17 mk17 mq17 l17 c17 k17 a18 n18 l18 c18 k18 a19 n19 mk19 mq19 l19 c19 k19 a20 n20 l20 c20 k20 a21 n21 mk21 mq21 l21 c21 k21 a22 n22 l22 c22 k22 a23 n23 l23 c23 k23 a24 n24 l24 c24 k24 a25 n25 l25 c25 k25 a26 n26 l26 c26 k26 a27 n27 l27 c27 k27 a28 n28 l28 c28 k28 a29 n29 l29 c29 k29 a30 n30 l30 c30 k30 a31 n31 l31 c31 k31 a32 n32 l32 c32 k32 a33 n33 l33 c33 k33 a34 n34 l34 c34 k34 a35 n35 l35 c35 k35 a36 n36 l36 c36 k36 a37 n37 l37 c37 k37 a38 l38 c38 k38 a39 l39 c39 k39 a40 l40 c40 k40 a41 l41 c41 k41 a42 l42 c42 k42 a43 l43 c43 k43 a44 l44 c44 k44 a45 l45 c45 k45 a46 l46 c46 k46 a47 l47 c47 k47 ih0 yp0 yr0 yf0 hgc0 hgc1 hgc2 hgc3 hgc4 hgc5 hgc6 hgc7 xr0 xg0 xh0 xj0 xp0 xo0 xs0 xk0 xc0_0 xc0_1 xc0_2 xr1 xg1 xh1 xj1 xp1 xo1 xs1 xk1 xc1_0 xc1_1 xc1_2 xg2 xh2 xj2 xp2 xo2 xs2 xk2 xc2_0 xc2_1 xc2_2 xg3 xh3 xj3 xp3 xo3 xs3 xk3 xc3_0 xc3_1 xc3_2 xr4 xg4 xh4 xj4 xp4 xo4 xs4 xk4 xc4_0 xc4_1 xc4_2 xr5 xg5 xh5 xj5 xp5 xo5 xs5 xk5 xc5_0 xc5_1 xc5_2 xr6 xg6 xh6 xj6 xp6 xo6 xs6 xk6 xc6_0 xc6_1 xc6_2 xr7 xg7 xh7 xj7 xp7 xo7 xs7 xk7 xc7_0 xc7_1 xc7_2 xr8 xg8 xh8 xj8 xp8 xo8 xs8 xk8 xc8_0 xc8_1 xc8_2 xb0 xb1 xb2 z0 z1 z2 z3 z4 z5 z6 z7 z8 z9 z10
  have e := hfa.symm.trans T.m_law
  cases e
  exact ⟨_, fun s v => .of_eq rfl, fun base _ _ => ok_law T⟩
end M
/-! The hand-in's compiled file may not be greater than 64 MB. The head makes, beside the heaps and trees that it writes out, second ones that this proof doesn't use, and proofs that grow with the square of their objects; these names, taken ahead, keep it from that. -/
def PySem.W.Fast.tw1220647777738829913 : Unit := ()
def PySem.W.Fast.tw8901278549189734751 : Unit := ()
def PySem.W.Fast.tw11819526864055478425 : Unit := ()
def PySem.W.Fast.tw4192890840596423723 : Unit := ()
def PySem.W.Fast.tw12716128453073044246 : Unit := ()
def PySem.W.Fast.tw9234512461601443131 : Unit := ()
def PySem.W.Fast.tw4921564232804399216 : Unit := ()
def PySem.W.Fast.tw4459095558463598728 : Unit := ()
def PySem.W.Fast.tw7769311071128435732 : Unit := ()
def PySem.W.Fast.tw1044740211206009052 : Unit := ()
def PySem.W.Fast.tw9617255500402461388 : Unit := ()
def PySem.W.Fast.tw1025644708828248666 : Unit := ()
def PySem.W.Fast.tw15050102014202760872 : Unit := ()
def PySem.W.Fast.tw16113502225643123712 : Unit := ()
def PySem.W.Fast.tw3509873977218182569 : Unit := ()
def PySem.W.Fast.tw12385274840335860018 : Unit := ()
def PySem.W.Fast.tw8046514975071174755 : Unit := ()
def PySem.W.Fast.tw9746574397755420929 : Unit := ()
def PySem.W.Fast.tw671839643959869837 : Unit := ()
def PySem.W.Fast.tw2380206638956666792 : Unit := ()
def PySem.W.Fast.tw4990539260401682058 : Unit := ()
def PySem.W.Fast.tw5518738954057156599 : Unit := ()
def PySem.W.Fast.tw2924325855664701057 : Unit := ()
def PySem.W.Fast.tw10904112109560261012 : Unit := ()
def PySem.W.Fast.tw16187199817065559593 : Unit := ()
def PySem.W.Fast.tw16983472061187918621 : Unit := ()
def PySem.W.Fast.tw16272652729063435725 : Unit := ()
def PySem.W.Fast.tw4936635015091426002 : Unit := ()
def PySem.W.Fast.tw7846767530004856871 : Unit := ()
def PySem.W.Fast.tw17838219609537230650 : Unit := ()
def PySem.W.Fast.tw3783125340365048138 : Unit := ()
def PySem.W.Fast.tw4335985789923092491 : Unit := ()
def PySem.W.Fast.tw10425738630332033892 : Unit := ()
def PySem.W.Fast.tw7777179519730934356 : Unit := ()
def PySem.W.Fast.tw10597218276901054368 : Unit := ()
def PySem.W.Fast.tw7118124647383175041 : Unit := ()
def PySem.W.Fast.tw2275892801011616260 : Unit := ()
def PySem.W.Fast.tw804454040132874108 : Unit := ()
def PySem.W.Fast.tw2873937947116336110 : Unit := ()
def PySem.W.Fast.tw15785490508600735504 : Unit := ()
def PySem.W.Fast.tw4238222559311089189 : Unit := ()
def PySem.W.Fast.tw12640047398668857264 : Unit := ()
def PySem.W.Fast.tw14342168429052076031 : Unit := ()
def PySem.W.Fast.tw2785500323545266891 : Unit := ()
def PySem.W.Fast.tw12388002825388416255 : Unit := ()
def PySem.W.Fast.tw11601087829457578734 : Unit := ()
def PySem.W.Fast.tw16973174615715444421 : Unit := ()
def PySem.W.Fast.tw903299681338975042 : Unit := ()
def PySem.W.Fast.tw7268925330772680368 : Unit := ()
def PySem.W.Fast.tw2175781939116859009 : Unit := ()
def PySem.W.Fast.tw6283595057446432973 : Unit := ()
def PySem.W.Fast.tw7586401583514015276 : Unit := ()
def PySem.W.Fast.tw9544112889047928200 : Unit := ()
def PySem.W.Fast.tw18300976545520366686 : Unit := ()
def PySem.W.Fast.tw7586966121882765871 : Unit := ()
def PySem.W.Fast.tw13937711517000008590 : Unit := ()
def PySem.W.Fast.tw4006174839954689373 : Unit := ()
def PySem.W.Fast.tw13724609266516540930 : Unit := ()
def PySem.W.Fast.tw17449277404577716777 : Unit := ()
def PySem.W.Fast.tw5855681604235802731 : Unit := ()
def PySem.W.Fast.tw3755875589052645798 : Unit := ()
def PySem.W.Fast.tw17116089672073238562 : Unit := ()
def PySem.W.Fast.tw3011460202206564763 : Unit := ()
def PySem.W.Fast.tw9711991754553440874 : Unit := ()
def PySem.W.Fast.tw6276218255525169933 : Unit := ()
def PySem.W.Fast.tw16038707720755360066 : Unit := ()
def PySem.W.Fast.tw11822018169307935797 : Unit := ()
def PySem.W.Fast.tw2095543103767904773 : Unit := ()
def PySem.W.Fast.tw8154745881978515399 : Unit := ()
def PySem.W.Fast.tw10219105939947031898 : Unit := ()
def PySem.W.Fast.tw12669423485249297444 : Unit := ()
def PySem.W.Fast.tw6090839050991814571 : Unit := ()
def PySem.W.Fast.tw1876563107678400751 : Unit := ()
def PySem.W.Fast.tw3826765935863183292 : Unit := ()
def PySem.W.Fast.tw1799315237432685022 : Unit := ()
def PySem.W.Fast.tw7798351636904555506 : Unit := ()
def PySem.W.Fast.tw6165071483050990677 : Unit := ()
def PySem.W.Fast.tw10317308350389822735 : Unit := ()
def PySem.W.Fast.tw15448775224269197914 : Unit := ()
def PySem.W.Fast.tw1130077038031533316 : Unit := ()
open PySem PySem.W PyProof.Rows
set_option maxRecDepth 100000 in
set_option maxHeartbeats 0 in
theorem PySem.Challenge.cw_manypurses_k14_worlds_refused_holds : PySem.Challenge.rw_manypurses_k14_worlds_refused.Holds := by
  w_on; o_law; k_head; (case hw => w_witness2)
  k_fill
  refine L2.walk_ofK (l := PySem.Challenge.rw_manypurses_k14_worlds_refused) (n := 63) (k := 12) (x := "_law_script") (CX := L2.CX0) (sp := M.sp_law) rfl (by decide) rfl ⟨rfl, by decide, by decide⟩ (fun w h Y => PySem.W.kIn_of Y) ?F ?S ?C
  case F =>
    intro w mg fa h KX G hmg
    refine' M.all_mk KX G hmg ?cm0 ?cg0 ?ch0 ?co0 ?cs0 ?cn0_0 ?cn0_1 ?cn0_2 ?cm1 ?cg1 ?ch1 ?co1 ?cs1 ?cn1_0 ?cn1_1 ?cn1_2 ?cn1_3 ?cn1_4 ?cn1_5 ?cn1_6 ?cm2 ?cg2 ?ch2 ?co2 ?cs2 ?cn2_0 ?cn2_1 ?cm3 ?cg3 ?ch3 ?co3 ?cs3 ?cn3_0 ?cn3_1 ?cn3_2 ?cn3_3 ?cn3_4 ?cn3_5 ?cn3_6 ?cn3_7 ?xm0 ?xm1 ?xm2 ?xm3 ?xm4 ?xm5 ?xm6 ?xm7 ?xm8 ?xm9 ?xm10 ?xm11 ?a0 ?l0 ?c0 ?k0 ?a1 ?l1 ?c1 ?k1 ?a2 ?l2 ?c2 ?k2 ?a3 ?l3 ?c3 ?k3 ?a4 ?l4 ?c4 ?k4 ?a5 ?l5 ?c5 ?k5 ?a6 ?l6 ?c6 ?k6 ?a7 ?l7 ?c7 ?k7 ?a8 ?l8 ?c8 ?k8 ?a9 ?l9 ?c9 ?k9 ?a10 ?l10 ?c10 ?k10 ?a11 ?l11 ?c11 ?k11 ?xrn11 ?xd11a ?xd11b ?xd11c ?xd11d ?a12 ?l12 ?c12 ?k12 ?xrn12 ?xd12a ?xd12b ?xd12c ?xd12d ?a13 ?l13 ?c13 ?k13 ?a14 ?l14 ?c14 ?k14 ?a15 ?n15 ?mk15 ?mq15 ?l15 ?c15 ?k15 ?a16 ?n16 ?l16 ?c16 ?k16 ?a17 ?n17 ?mk17 ?mq17 ?l17 ?c17 ?k17 ?a18 ?n18 ?l18 ?c18 ?k18 ?a19 ?n19 ?mk19 ?mq19 ?l19 ?c19 ?k19 ?a20 ?n20 ?l20 ?c20 ?k20 ?a21 ?n21 ?mk21 ?mq21 ?l21 ?c21 ?k21 ?a22 ?n22 ?l22 ?c22 ?k22 ?a23 ?n23 ?l23 ?c23 ?k23 ?a24 ?n24 ?l24 ?c24 ?k24 ?a25 ?n25 ?l25 ?c25 ?k25 ?a26 ?n26 ?l26 ?c26 ?k26 ?a27 ?n27 ?l27 ?c27 ?k27 ?a28 ?n28 ?l28 ?c28 ?k28 ?a29 ?n29 ?l29 ?c29 ?k29 ?a30 ?n30 ?l30 ?c30 ?k30 ?a31 ?n31 ?l31 ?c31 ?k31 ?a32 ?n32 ?l32 ?c32 ?k32 ?a33 ?n33 ?l33 ?c33 ?k33 ?a34 ?n34 ?l34 ?c34 ?k34 ?a35 ?n35 ?l35 ?c35 ?k35 ?a36 ?n36 ?l36 ?c36 ?k36 ?a37 ?n37 ?l37 ?c37 ?k37 ?a38 ?l38 ?c38 ?k38 ?a39 ?l39 ?c39 ?k39 ?a40 ?l40 ?c40 ?k40 ?a41 ?l41 ?c41 ?k41 ?a42 ?l42 ?c42 ?k42 ?a43 ?l43 ?c43 ?k43 ?a44 ?l44 ?c44 ?k44 ?a45 ?l45 ?c45 ?k45 ?a46 ?l46 ?c46 ?k46 ?a47 ?l47 ?c47 ?k47 ?ih0 ?yp0 ?yr0 ?yf0 ?hgc0 ?hgc1 ?hgc2 ?hgc3 ?hgc4 ?hgc5 ?hgc6 ?hgc7 ?xr0 ?xg0 ?xh0 ?xj0 ?xp0 ?xo0 ?xs0 ?xk0 ?xc0_0 ?xc0_1 ?xc0_2 ?xr1 ?xg1 ?xh1 ?xj1 ?xp1 ?xo1 ?xs1 ?xk1 ?xc1_0 ?xc1_1 ?xc1_2 ?xg2 ?xh2 ?xj2 ?xp2 ?xo2 ?xs2 ?xk2 ?xc2_0 ?xc2_1 ?xc2_2 ?xg3 ?xh3 ?xj3 ?xp3 ?xo3 ?xs3 ?xk3 ?xc3_0 ?xc3_1 ?xc3_2 ?xr4 ?xg4 ?xh4 ?xj4 ?xp4 ?xo4 ?xs4 ?xk4 ?xc4_0 ?xc4_1 ?xc4_2 ?xr5 ?xg5 ?xh5 ?xj5 ?xp5 ?xo5 ?xs5 ?xk5 ?xc5_0 ?xc5_1 ?xc5_2 ?xr6 ?xg6 ?xh6 ?xj6 ?xp6 ?xo6 ?xs6 ?xk6 ?xc6_0 ?xc6_1 ?xc6_2 ?xr7 ?xg7 ?xh7 ?xj7 ?xp7 ?xo7 ?xs7 ?xk7 ?xc7_0 ?xc7_1 ?xc7_2 ?xr8 ?xg8 ?xh8 ?xj8 ?xp8 ?xo8 ?xs8 ?xk8 ?xc8_0 ?xc8_1 ?xc8_2 ?xb0 ?xb1 ?xb2 ?z0 ?z1 ?z2 ?z3 ?z4 ?z5 ?z6 ?z7 ?z8 ?z9 ?z10
    (case cm0 => k_is)
    (case cg0 => k_is)
    (case ch0 => k_is)
    (case co0 => k_is)
    (case cs0 => k_is)
    (case cn0_0 => k_is)
    (case cn0_1 => k_is)
    (case cn0_2 => k_is)
    (case cm1 => k_is)
    (case cg1 => k_is)
    (case ch1 => k_is)
    (case co1 => k_is)
    (case cs1 => k_is)
    (case cn1_0 => k_is)
    (case cn1_1 => k_is)
    (case cn1_2 => k_is)
    (case cn1_3 => k_is)
    (case cn1_4 => k_is)
    (case cn1_5 => k_is)
    (case cn1_6 => k_is)
    (case cm2 => k_is)
    (case cg2 => k_is)
    (case ch2 => k_is)
    (case co2 => k_is)
    (case cs2 => k_is)
    (case cn2_0 => k_is)
    (case cn2_1 => k_is)
    (case cm3 => k_is)
    (case cg3 => k_is)
    (case ch3 => k_is)
    (case co3 => k_is)
    (case cs3 => k_is)
    (case cn3_0 => k_is)
    (case cn3_1 => k_is)
    (case cn3_2 => k_is)
    (case cn3_3 => k_is)
    (case cn3_4 => k_is)
    (case cn3_5 => k_is)
    (case cn3_6 => k_is)
    (case cn3_7 => k_is)
    (case xm0 => k_is)
    (case xm1 => k_is)
    (case xm2 => k_is)
    (case xm3 => k_is)
    (case xm4 => k_is)
    (case xm5 => k_is)
    (case xm6 => k_is)
    (case xm7 => k_is)
    (case xm8 => k_is)
    (case xm9 => k_is)
    (case xm10 => k_is)
    (case xm11 => k_is)
    (case a0 => k_is)
    (case l0 => k_is)
    (case c0 => k_is)
    (case k0 => k_is)
    (case a1 => k_is)
    (case l1 => k_is)
    (case c1 => k_is)
    (case k1 => k_is)
    (case a2 => k_is)
    (case l2 => k_is)
    (case c2 => k_is)
    (case k2 => k_is)
    (case a3 => k_is)
    (case l3 => k_is)
    (case c3 => k_is)
    (case k3 => k_is)
    (case a4 => k_is)
    (case l4 => k_is)
    (case c4 => k_is)
    (case k4 => k_is)
    (case a5 => k_is)
    (case l5 => k_is)
    (case c5 => k_is)
    (case k5 => k_is)
    (case a6 => k_is)
    (case l6 => k_is)
    (case c6 => k_is)
    (case k6 => k_is)
    (case a7 => k_is)
    (case l7 => k_is)
    (case c7 => k_is)
    (case k7 => k_is)
    (case a8 => k_is)
    (case l8 => k_is)
    (case c8 => k_is)
    (case k8 => k_is)
    (case a9 => k_is)
    (case l9 => k_is)
    (case c9 => k_is)
    (case k9 => k_is)
    (case a10 => k_is)
    (case l10 => k_is)
    (case c10 => k_is)
    (case k10 => k_is)
    (case a11 => k_is)
    (case l11 => k_is)
    (case c11 => k_is)
    (case k11 => k_is)
    (case xrn11 => kernel_rfl)
    (case xd11a => k_is)
    (case xd11b => k_is)
    (case xd11c => k_is)
    (case xd11d => k_is)
    (case a12 => k_is)
    (case l12 => k_is)
    (case c12 => k_is)
    (case k12 => k_is)
    (case xrn12 => kernel_rfl)
    (case xd12a => k_is)
    (case xd12b => k_is)
    (case xd12c => k_is)
    (case xd12d => k_is)
    (case a13 => k_is)
    (case l13 => k_is)
    (case c13 => k_is)
    (case k13 => k_is)
    (case a14 => k_is)
    (case l14 => k_is)
    (case c14 => k_is)
    (case k14 => k_is)
    (case a15 => k_is)
    (case n15 => k_is)
    (case mk15 => k_is)
    (case mq15 => k_is)
    (case l15 => k_is)
    (case c15 => k_is)
    (case k15 => k_is)
    (case a16 => k_is)
    (case n16 => k_is)
    (case l16 => k_is)
    (case c16 => k_is)
    (case k16 => k_is)
    (case a17 => k_is)
    (case n17 => k_is)
    (case mk17 => k_is)
    (case mq17 => k_is)
    (case l17 => k_is)
    (case c17 => k_is)
    (case k17 => k_is)
    (case a18 => k_is)
    (case n18 => k_is)
    (case l18 => k_is)
    (case c18 => k_is)
    (case k18 => k_is)
    (case a19 => k_is)
    (case n19 => k_is)
    (case mk19 => k_is)
    (case mq19 => k_is)
    (case l19 => k_is)
    (case c19 => k_is)
    (case k19 => k_is)
    (case a20 => k_is)
    (case n20 => k_is)
    (case l20 => k_is)
    (case c20 => k_is)
    (case k20 => k_is)
    (case a21 => k_is)
    (case n21 => k_is)
    (case mk21 => k_is)
    (case mq21 => k_is)
    (case l21 => k_is)
    (case c21 => k_is)
    (case k21 => k_is)
    (case a22 => k_is)
    (case n22 => k_is)
    (case l22 => k_is)
    (case c22 => k_is)
    (case k22 => k_is)
    (case a23 => k_is)
    (case n23 => k_is)
    (case l23 => k_is)
    (case c23 => k_is)
    (case k23 => k_is)
    (case a24 => k_is)
    (case n24 => k_is)
    (case l24 => k_is)
    (case c24 => k_is)
    (case k24 => k_is)
    (case a25 => k_is)
    (case n25 => k_is)
    (case l25 => k_is)
    (case c25 => k_is)
    (case k25 => k_is)
    (case a26 => k_is)
    (case n26 => k_is)
    (case l26 => k_is)
    (case c26 => k_is)
    (case k26 => k_is)
    (case a27 => k_is)
    (case n27 => k_is)
    (case l27 => k_is)
    (case c27 => k_is)
    (case k27 => k_is)
    (case a28 => k_is)
    (case n28 => k_is)
    (case l28 => k_is)
    (case c28 => k_is)
    (case k28 => k_is)
    (case a29 => k_is)
    (case n29 => k_is)
    (case l29 => k_is)
    (case c29 => k_is)
    (case k29 => k_is)
    (case a30 => k_is)
    (case n30 => k_is)
    (case l30 => k_is)
    (case c30 => k_is)
    (case k30 => k_is)
    (case a31 => k_is)
    (case n31 => k_is)
    (case l31 => k_is)
    (case c31 => k_is)
    (case k31 => k_is)
    (case a32 => k_is)
    (case n32 => k_is)
    (case l32 => k_is)
    (case c32 => k_is)
    (case k32 => k_is)
    (case a33 => k_is)
    (case n33 => k_is)
    (case l33 => k_is)
    (case c33 => k_is)
    (case k33 => k_is)
    (case a34 => k_is)
    (case n34 => k_is)
    (case l34 => k_is)
    (case c34 => k_is)
    (case k34 => k_is)
    (case a35 => k_is)
    (case n35 => k_is)
    (case l35 => k_is)
    (case c35 => k_is)
    (case k35 => k_is)
    (case a36 => k_is)
    (case n36 => k_is)
    (case l36 => k_is)
    (case c36 => k_is)
    (case k36 => k_is)
    (case a37 => k_is)
    (case n37 => k_is)
    (case l37 => k_is)
    (case c37 => k_is)
    (case k37 => k_is)
    (case a38 => k_is)
    (case l38 => k_is)
    (case c38 => k_is)
    (case k38 => k_is)
    (case a39 => k_is)
    (case l39 => k_is)
    (case c39 => k_is)
    (case k39 => k_is)
    (case a40 => k_is)
    (case l40 => k_is)
    (case c40 => k_is)
    (case k40 => k_is)
    (case a41 => k_is)
    (case l41 => k_is)
    (case c41 => k_is)
    (case k41 => k_is)
    (case a42 => k_is)
    (case l42 => k_is)
    (case c42 => k_is)
    (case k42 => k_is)
    (case a43 => k_is)
    (case l43 => k_is)
    (case c43 => k_is)
    (case k43 => k_is)
    (case a44 => k_is)
    (case l44 => k_is)
    (case c44 => k_is)
    (case k44 => k_is)
    (case a45 => k_is)
    (case l45 => k_is)
    (case c45 => k_is)
    (case k45 => k_is)
    (case a46 => k_is)
    (case l46 => k_is)
    (case c46 => k_is)
    (case k46 => k_is)
    (case a47 => k_is)
    (case l47 => k_is)
    (case c47 => k_is)
    (case k47 => k_is)
    (case ih0 => k_is)
    (case yp0 => kernel_rfl)
    (case yr0 => kernel_rfl)
    (case yf0 => kernel_rfl)
    (case hgc0 => k_is)
    (case hgc1 => k_is)
    (case hgc2 => k_is)
    (case hgc3 => k_is)
    (case hgc4 => k_is)
    (case hgc5 => k_is)
    (case hgc6 => k_is)
    (case hgc7 => k_is)
    (case xr0 => kernel_rfl)
    (case xg0 => k_is)
    (case xh0 => k_is)
    (case xj0 => k_is)
    (case xp0 => k_is)
    (case xo0 => k_is)
    (case xs0 => kernel_rfl)
    (case xk0 => kernel_rfl)
    (case xc0_0 => kernel_rfl)
    (case xc0_1 => kernel_rfl)
    (case xc0_2 => kernel_rfl)
    (case xr1 => kernel_rfl)
    (case xg1 => k_is)
    (case xh1 => k_is)
    (case xj1 => k_is)
    (case xp1 => k_is)
    (case xo1 => k_is)
    (case xs1 => kernel_rfl)
    (case xk1 => kernel_rfl)
    (case xc1_0 => kernel_rfl)
    (case xc1_1 => kernel_rfl)
    (case xc1_2 => kernel_rfl)
    (case xg2 => k_is)
    (case xh2 => k_is)
    (case xj2 => k_is)
    (case xp2 => k_is)
    (case xo2 => k_is)
    (case xs2 => kernel_rfl)
    (case xk2 => kernel_rfl)
    (case xc2_0 => kernel_rfl)
    (case xc2_1 => kernel_rfl)
    (case xc2_2 => kernel_rfl)
    (case xg3 => k_is)
    (case xh3 => k_is)
    (case xj3 => k_is)
    (case xp3 => k_is)
    (case xo3 => k_is)
    (case xs3 => kernel_rfl)
    (case xk3 => kernel_rfl)
    (case xc3_0 => kernel_rfl)
    (case xc3_1 => kernel_rfl)
    (case xc3_2 => kernel_rfl)
    (case xr4 => kernel_rfl)
    (case xg4 => k_is)
    (case xh4 => k_is)
    (case xj4 => k_is)
    (case xp4 => k_is)
    (case xo4 => k_is)
    (case xs4 => kernel_rfl)
    (case xk4 => kernel_rfl)
    (case xc4_0 => kernel_rfl)
    (case xc4_1 => kernel_rfl)
    (case xc4_2 => kernel_rfl)
    (case xr5 => kernel_rfl)
    (case xg5 => k_is)
    (case xh5 => k_is)
    (case xj5 => k_is)
    (case xp5 => k_is)
    (case xo5 => k_is)
    (case xs5 => kernel_rfl)
    (case xk5 => kernel_rfl)
    (case xc5_0 => kernel_rfl)
    (case xc5_1 => kernel_rfl)
    (case xc5_2 => kernel_rfl)
    (case xr6 => kernel_rfl)
    (case xg6 => k_is)
    (case xh6 => k_is)
    (case xj6 => k_is)
    (case xp6 => k_is)
    (case xo6 => k_is)
    (case xs6 => kernel_rfl)
    (case xk6 => kernel_rfl)
    (case xc6_0 => kernel_rfl)
    (case xc6_1 => kernel_rfl)
    (case xc6_2 => kernel_rfl)
    (case xr7 => kernel_rfl)
    (case xg7 => k_is)
    (case xh7 => k_is)
    (case xj7 => k_is)
    (case xp7 => k_is)
    (case xo7 => k_is)
    (case xs7 => kernel_rfl)
    (case xk7 => kernel_rfl)
    (case xc7_0 => kernel_rfl)
    (case xc7_1 => kernel_rfl)
    (case xc7_2 => kernel_rfl)
    (case xr8 => kernel_rfl)
    (case xg8 => k_is)
    (case xh8 => k_is)
    (case xj8 => k_is)
    (case xp8 => k_is)
    (case xo8 => k_is)
    (case xs8 => kernel_rfl)
    (case xk8 => kernel_rfl)
    (case xc8_0 => kernel_rfl)
    (case xc8_1 => kernel_rfl)
    (case xc8_2 => kernel_rfl)
    (case xb0 => k_is)
    (case xb1 => k_is)
    (case xb2 => k_is)
    (case z0 => k_is)
    (case z1 => k_is)
    (case z2 => k_is)
    (case z3 => k_is)
    (case z4 => k_is)
    (case z5 => k_is)
    (case z6 => k_is)
    (case z7 => k_is)
    (case z8 => k_is)
    (case z9 => k_is)
    (case z10 => k_is)
  case S => exact fun K H a ns hl _ hS => ⟨a, ns, rfl, hS, hl, fun _ => rfl⟩
  case C => exact fun _ _ _ _ z => z
