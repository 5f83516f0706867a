import PyProof.Rows.All
import Wide.All
import OpenK.AllK
import Wide.FinOn
import Lean
import PyProof.EqAt
import PyProof.EqKinds
import PyProof.TupleCall
import PyProof.NeKinds
import PySem.Challenge.RW_manypurses_k05_whole_all_alike
set_option Elab.async false
set_option linter.all false
set_option maxRecDepth 100000
namespace L2
open PySem PySem.Spec PyProof.Rows
abbrev Key:=Sum Int Str
def jus:Key → Value → Bool
 | .inl k,v=>Value.isInt k v
 | .inr x,v=>Value.isStrOf x v
def j8l (w:World) : Key → Int
 | .inl k=>hashInt k
 | .inr x=>hashStr w x
theorem xw : ∀ {k:Key} {v:Value},jus k v = true → (∃ i t,k = Sum.inl i ∧ v = Value.int i t) ∨ (∃ x t,k = Sum.inr x ∧ v = Value.str x t)
 | .inl i,v,h=>by
  obtain ⟨t,e⟩:=Value.isInt_shape (k:=i) (v:=v) h
  exact .inl ⟨i,t,rfl,e⟩
 | .inr x,v,h=>by
  obtain ⟨t,e⟩:=Value.isStrOf_shape (x:=x) (v:=v) h
  exact .inr ⟨x,t,rfl,e⟩
theorem jw6 (i:Int) (t:Tok) : jus (.inl i) (.int i t) = true:=by simp [jus,Value.isInt]
theorem jw3 (x:Str) (t:Tok) : jus (.inr x) (.str x t) = true:=by simp [jus,Value.isStrOf]
theorem j33 (a b:Int) : decide ((Sum.inl a:Key) = Sum.inl b) = (a == b):=by
 by_cases e:a = b
 ·subst e; simp
 ·have h : ¬ (Sum.inl a:Key) = Sum.inl b:=fun q=>e (Sum.inl.inj q)
  rw [decide_eq_false h]
  exact (beq_eq_false_iff_ne.mpr e).symm
theorem j4p (a b:Str) : decide ((Sum.inr a:Key) = Sum.inr b) = decide (a = b):=by
 by_cases e:a = b
 ·subst e; simp
 ·have h : ¬ (Sum.inr a:Key) = Sum.inr b:=fun q=>e (Sum.inr.inj q)
  rw [decide_eq_false h,decide_eq_false e]
theorem j44 (a:Int) (b:Str) : decide ((Sum.inl a:Key) = Sum.inr b) = false:=decide_eq_false (fun q=>nomatch q)
theorem j47 (a:Str) (b:Int) : decide ((Sum.inr a:Key) = Sum.inl b) = false:=decide_eq_false (fun q=>nomatch q)
def zf (prog:Program) (w:World) : PySem.KeyKind prog w Key where
  is:=jus
  hash:=j8l w
  inj := fun v a b ha hb=>by
    rcases xw ha with ⟨i,t,rfl,rfl⟩ | ⟨x,t,rfl,rfl⟩
    · rcases xw hb with ⟨j,u,rfl,e⟩ | ⟨y,u,rfl,e⟩
      · injection e with e1 _; rw [e1]
      · exact nomatch e
    · rcases xw hb with ⟨j,u,rfl,e⟩ | ⟨y,u,rfl,e⟩
      · exact nomatch e
      · injection e with e1 _; rw [e1]
  byValue:=fun k v h=>by
    rcases xw h with ⟨i,t,rfl,rfl⟩ | ⟨x,t,rfl,rfl⟩ <;> rfl
  pyHash:=fun hv h=>by
    rcases xw hv with ⟨i,t,rfl,rfl⟩ | ⟨x,t,rfl,rfl⟩
    · exact wpAny_pyHash_int h
    · exact wpAny_pyHash_str h
  eqBool:=fun hu hv h=>by
    rcases xw hu with ⟨i,t,rfl,rfl⟩ | ⟨x,t,rfl,rfl⟩
    · rcases xw hv with ⟨j,u,rfl,rfl⟩ | ⟨y,u,rfl,rfl⟩
      · rw [j33] at h; exact wpAny_eqBool_int h
      · rw [j44] at h; exact SeqAt.EqAt.int_str i t y u _ _ _ _ h
    · rcases xw hv with ⟨j,u,rfl,rfl⟩ | ⟨y,u,rfl,rfl⟩
      · rw [j47] at h; exact SeqAt.EqAt.str_int x t j u _ _ _ _ h
      · rw [j4p] at h; exact wpAny_eqBool_str h
  «strs» := fun k x t v h=>by
    rcases xw h with ⟨i,u,rfl,e⟩ | ⟨y,u,rfl,e⟩
    · exact nomatch e
    · injection e with e1 _
      subst e1
      cases v <;> rfl
theorem jud (prog:Program) (w:World) (i:Int) (t:Tok) : (zf prog w).is (.inl i) (.int i t) = true:=jw6 i t
theorem juu (prog:Program) (w:World) (x:Str) (t:Tok) : (zf prog w).is (.inr x) (.str x t) = true:=jw3 x t
end L2
namespace L2
open PySem PySem.Spec PyProof.Rows
inductive V where
 | non | bl (b:Bool) | int (i:Int) | str (x:Str) | byt (b:Array UInt8) | flt (b:UInt64) | ref (a:Addr) | ty (n:String)
 deriving DecidableEq
def RelV:V → Value → Prop
 | .non,u=>u = Value.none
 | .bl b,u=>u = Value.bool b
 | .int i,u=>∃ t,u = Value.int i t
 | .str x,u=>∃ t,u = Value.str x t
 | .byt b,u=>∃ t,u = Value.bytes b t
 | .flt b,u=>∃ t,u = Value.float b t
 | .ref a,u=>u = Value.ref a
 | .ty n,u=>u = Value.type n
abbrev Vals:List V → List Value → Prop:=Paired RelV
theorem Vals.length {xs:List V} {us:List Value} (r:Vals xs us) : xs.length = us.length:=Paired.length r
theorem Vals.get : ∀ {xs:List V} {us:List Value} {i:Nat} {x:V},Vals xs us → xs[i]? = some x → ∃ u,us[i]? = some u ∧ RelV x u
 | _,_,_,_,.nil,e=>by simp at e
 | _,_,0,_,.cons r _,e=>by simp at e; subst e; exact ⟨_,rfl,r⟩
 | _,_,i + 1,x,.cons _ t,e=>by
  obtain ⟨u,h1,h2⟩:=Vals.get (i:=i) (x:=x) t (by simpa using e)
  exact ⟨u,by simpa using h1,h2⟩
theorem Vals.set {x:V} {u:Value} (r:RelV x u) : ∀ {xs:List V} {us:List Value} (i:Nat),Vals xs us → Vals (xs.set i x) (us.set i u)
 | _,_,_,.nil=>.nil
 | _,_,0,.cons _ t=>.cons r t
 | _,_,i + 1,.cons q t=>.cons q (Vals.set r i t)
theorem Vals.append : ∀ {xs ys:List V} {us ws:List Value},Vals xs us → Vals ys ws → Vals (xs ++ ys) (us ++ ws)
 | _,_,_,_,.nil,s=>s
 | _,_,_,_,.cons r t,s=>.cons r (Vals.append t s)
def jr6:Option V → Option Value → Prop
 | some v,some u=>RelV v u
 | none,none=>True
 | _,_=>False
def KV {κ : Type} : List (κ × V) → List (κ × Value) → Prop:=Paired fun (p : κ × V) (q : κ × Value)=>p.1 = q.1 ∧ RelV p.2 q.2
def kV:Key → V
 | .inl i=>.int i
 | .inr x=>.str x
inductive HO where
  | lst (xs:List V)
  | tup (xs:List V)
  | dK (kvs:List (Key × V)) | dT (kvs:List (List Key × V))
  | set (S:Int → Bool) (n:Nat)
  | ins (C dx:Addr) (fs:List (Str × V))
  | own (x:Addr)
  | xd (fs:List (Str × V))
  | met (f x:Addr)
  | rng (lo hi:Int)
  | frz (o:Obj) (u:HO)
  | tbl (ps:Array Value)
  | ext (φ : Heap → Prop)
abbrev Hp:=Addr → Option HO
def upd (H:Hp) (a:Addr) (o:HO) : Hp:=fun b=>if b = a then some o else H b
theorem ja {H:Hp} {a:Addr} {o:HO} : upd H a o a = some o:=by unfold upd; rw [if_pos rfl]
theorem je {H:Hp} {a b:Addr} {o:HO} (h:b ≠ a) : upd H a o b = H b:=by unfold upd; rw [if_neg h]
theorem juc {H:Hp} {a:Addr} {o u:HO} : upd (upd H a o) a u = upd H a u:=by
 funext b; unfold upd; split <;> rfl
theorem jlw {H:Hp} {a b:Addr} {o u:HO} (h:H a = some o) (h':H b = some u) (d:o ≠ u) : a ≠ b:=by
 intro e; subst e; rw [h] at h'; exact d (Option.some.inj h')
theorem jk {H:Hp} {a b:Addr} {o:HO} (h:H a = some o) (h':H b = none) : a ≠ b:=by
 intro e; subst e; rw [h] at h'; cases h'
section
variable (P:Program) (w:World)
def we (H:Hp) (h:Heap) (a:Addr) : HO → Prop
 | .lst xs=>xs.length ≤ sizeLine ∧ ∃ (its:List Value) (n:Nat),Vals xs its ∧ h.get? a = some { cls:=.type "list",data:=.seq its.toArray n }
 | .tup xs=>xs.length ≤ sizeLine ∧ ∃ its:List Value,Vals xs its ∧ IsTup h a its.toArray
 | .dK kvs=>kvs.length ≤ sizeLine ∧ (a == sysModules) = false ∧ ∃ vs,KV kvs vs ∧ h.DictOf (zf P w) a vs
 | .dT kvs=>kvs.length ≤ sizeLine ∧ (a == sysModules) = false ∧ ∃ xs:List (List Key × Addr × Value),
   Paired (fun (p:List Key × V) (q:List Key × Addr × Value)=>p.1 = q.1 ∧ H q.2.1 = some (.tup (p.1.map kV)) ∧ RelV p.2 q.2.2) kvs xs ∧
   ∃ o es ep,h.get? a = some o ∧ o.ExactDict ∧ o.data = .dict es ep ∧ es.toList = xs.map (entryOfKey (tupleKind (zf P w))) ∧ (xs.map (·.1)).Nodup
 | .set S n=>h.SetOf (intKind P w) a S n
 | .ins C dx fs=>H dx = some (.own a) ∧ fs.length ≤ 1000 ∧ dx ≠ a ∧ h.get? a = some (PySem.W.instObj C dx) ∧
   ∃ mA,h.Ns1 dx mA ∧ (∀ f,jr6 (fs.lookup f) (mA f)) ∧ PySem.Within mA (fs.map (·.1))
 | .own _=>∃ o,h.get? a = some o
 | .xd fs=>∃ mA,h.Ns1 a mA ∧ ∀ f,jr6 (fs.lookup f) (mA f)
 | .rng lo hi=>∃ t u v,h.get? a = some { cls:=.type "range",data:=.fields #[.int lo t,.int hi u,.int 1 v] }
 | .frz o u=>h.get? a = some o ∧ we H h a u
 | .tbl ps=>h.get? a = some { cls:=.none,data:=.fields ps }
 | .met f x=>h.get? a = some (PySem.W.methodObj (.ref f) (.ref x))
 | .ext φ=>φ h ∧ (∃ o,h.get? a = some o) ∧ ∀ h1 h2:Heap,φ h1 → (∀ o,h1.get? a = some o → h2.get? a = some o) → φ h2
def HOk (H:Hp) (h:Heap) : Prop:=∀ a o,H a = some o → we P w H h a o
end
section
variable {P:Program} {w:World} {H H':Hp} {h h':Heap} {a:Addr} {o:HO}
theorem we.lt (x:we P w H h a o) : a < h.objs.size:=by
 cases o with
 | lst xs=>obtain ⟨_,_,_,_,e⟩:=x; exact Heap.lt_size e
 | tup xs=>obtain ⟨_,_,_,p⟩:=x; exact p.lt
 | dK kvs=>obtain ⟨_,_,_,_,o,_,_,e,_⟩:=x; exact Heap.lt_size e
 | dT kvs=>obtain ⟨_,_,_,_,o,_,_,e,_⟩:=x; exact Heap.lt_size e
 | set S n=>obtain ⟨o,_,_,_,e,_⟩:=x; exact Heap.lt_size e
 | ins C dx fs=>obtain ⟨_,_,_,e,_⟩:=x; exact Heap.lt_size e
 | own y=>obtain ⟨_,e⟩:=x; exact Heap.lt_size e
 | xd fs=>obtain ⟨_,⟨_,_,_,e,_⟩,_⟩:=x; exact Heap.lt_size e
 | rng lo hi=>obtain ⟨_,_,_,e⟩:=x; exact Heap.lt_size e
 | frz ob u=>obtain ⟨e,_⟩:=x; exact Heap.lt_size e
 | tbl ps=>exact Heap.lt_size (show h.get? a = some _ from x)
 | met f y=>exact Heap.lt_size (show h.get? a = some _ from x)
 | ext φ=>obtain ⟨_,⟨_,e⟩,_⟩:=x; exact Heap.lt_size e
theorem Paired.pz {α β : Type} {F G : α → β → Prop} : ∀ {l₁:List α} {l₂:List β},Paired F l₁ l₂ → (∀ a b,F a b → G a b) → Paired G l₁ l₂
 | _,_,.nil,_=>.nil
 | _,_,.cons r t,f=>.cons (f _ _ r) (Paired.pz t f)
theorem we.jpx (x:we P w H h a o) (k : ∀ b u,(b = a ∨ H b = some (.own a)) → h.get? b = some u → h'.get? b = some u)
  (ho : ∀ b,H b = some (.own a) → H' b = some (.own a)) (ht : ∀ b xs,H b = some (.tup xs) → H' b = some (.tup xs)) : we P w H' h' a o:=by
 induction o with
 | lst xs=>obtain ⟨z,its,n,r,e⟩:=x; exact ⟨z,its,n,r,k _ _ (.inl rfl) e⟩
 | tup xs=>obtain ⟨z,its,r,ob,e,c⟩:=x; exact ⟨z,its,r,ob,k _ _ (.inl rfl) e,c⟩
 | dK kvs=>obtain ⟨z,y,vs,r,ob,es,ep,e,c⟩:=x; exact ⟨z,y,vs,r,ob,es,ep,k _ _ (.inl rfl) e,c⟩
 | dT kvs=>
  obtain ⟨z,y,xs,r,ob,es,ep,e,c⟩:=x
  exact ⟨z,y,xs,Paired.pz r fun p q z=>⟨z.1,ht _ _ z.2.1,z.2.2⟩,ob,es,ep,k _ _ (.inl rfl) e,c⟩
 | set S n=>obtain ⟨ob,es,ep,t,e,c⟩:=x; exact ⟨ob,es,ep,t,k _ _ (.inl rfl) e,c⟩
 | ins C dx fs=>
  obtain ⟨d,z,ne,e,mA,⟨od,es,ep,e2,c⟩,r⟩:=x
  exact ⟨ho _ d,z,ne,k _ _ (.inl rfl) e,mA,⟨od,es,ep,k _ _ (.inr d) e2,c⟩,r⟩
 | own y=>obtain ⟨ob,e⟩:=x; exact ⟨ob,k _ _ (.inl rfl) e⟩
 | xd fs=>obtain ⟨mA,⟨od,es,ep,e,c⟩,r⟩:=x; exact ⟨mA,⟨od,es,ep,k _ _ (.inl rfl) e,c⟩,r⟩
 | rng lo hi=>obtain ⟨t,u,v,e⟩:=x; exact ⟨t,u,v,k _ _ (.inl rfl) e⟩
 | frz ob u ih=>obtain ⟨e,q⟩:=x; exact ⟨k _ _ (.inl rfl) e,ih q⟩
 | tbl ps=>
  have e:h.get? a = some { cls:=.none,data:=.fields ps }:=x
  show h'.get? a = some { cls:=.none,data:=.fields ps }
  exact k a _ (.inl rfl) e
 | met f y=>
  have e:h.get? a = some (PySem.W.methodObj (.ref f) (.ref y)):=x
  show h'.get? a = some (PySem.W.methodObj (.ref f) (.ref y))
  exact k a _ (.inl rfl) e
 | ext φ=>obtain ⟨p,⟨o,e⟩,st⟩:=x; exact ⟨st _ _ p fun o q=>k _ _ (.inl rfl) q,⟨o,k _ _ (.inl rfl) e⟩,st⟩
theorem HOk.lt (x:HOk P w H h) (e:H a = some o) : a < h.objs.size:=(x a o e).lt
theorem HOk.fresh (x:HOk P w H h) (e:h.objs.size ≤ a) : H a = none:=by
 cases q:H a with
 | none=>rfl
 | some u=>exact absurd (Nat.lt_of_lt_of_le (x.lt q) e) (Nat.lt_irrefl _)
theorem HOk.kept (x:HOk P w H h) (k : ∀ b u,h.get? b = some u → h'.get? b = some u) : HOk P w H h':=fun a o e=>
 (x a o e).jpx (fun b u _ q=>k b u q) (fun _ q=>q) fun _ _ q=>q
theorem HOk.laid (x:HOk P w H h) (k : ∀ b u,h.get? b = some u → h'.get? b = some u) (hp:h.objs.size ≤ a) (new:we P w (upd H a o) h' a o) : HOk P w (upd H a o) h':=fun b u e=>by
 have hn:=x.fresh hp
 by_cases hb:b = a
 ·subst hb; rw [ja] at e; cases e; exact new
 ·rw [je hb] at e
  exact (x b u e).jpx (fun c v _ q=>k c v q) (fun c q=>by rw [je (jk q hn)]; exact q) fun c xs q=>by rw [je (jk q hn)]; exact q
end
def Rd (H:Hp) (a:Addr) (u:HO) : Prop:=H a = some u ∨ ∃ o,H a = some (.frz o u)
theorem Rd.ok {P:Program} {w:World} {H:Hp} {h:Heap} {a:Addr} {u:HO} (r:Rd H a u) (x:HOk P w H h) : we P w H h a u:=by
 rcases r with r | ⟨o,r⟩
 ·exact x a u r
 ·obtain ⟨_,q⟩:=x a _ r
  exact q
def Mut:Option HO → Prop
 | some (.lst _)=>True
 | some (.dK _)=>True
 | some (.dT _)=>True
 | some (.set _ _)=>True
 | some (.ins _ _ _)=>True
 | some (.ext _)=>True
 | _=>False
section
variable {P:Program} {w:World} {H:Hp} {h h':Heap} {x e:Addr} {o':HO}
theorem HOk.write (ok:HOk P w H h) (mu:Mut (H x)) (he:e = x ∨ H e = some (.own x)) (k : ∀ b u,b ≠ e → h.get? b = some u → h'.get? b = some u) (heo : ∃ u,h'.get? e = some u)
  (new:we P w (upd H x o') h' x o') : HOk P w (upd H x o') h':=fun b u q=>by
 have nown : ∀ c y,H c = some (.own y) → c ≠ x:=fun c y r z=>by subst z; rw [r] at mu; exact mu
 have ntup : ∀ c xs,H c = some (.tup xs) → c ≠ x:=fun c xs r z=>by subst z; rw [r] at mu; exact mu
 by_cases hb:b = x
 ·subst hb; rw [ja] at q; cases q; exact new
 ·rw [je hb] at q
  by_cases hbe:b = e
  ·have q':H b = some (.own x):=by
    rcases he with z | z
    ·exact absurd (hbe.trans z) hb
    ·rw [hbe]; exact z
   rw [q] at q'; cases q'
   obtain ⟨v,hv⟩:=heo
   exact ⟨v,by rw [hbe]; exact hv⟩
  ·refine (ok b u q).jpx (fun c v hc r=>k c v ?_ r) (fun c r=>by rw [je (nown c b r)]; exact r) fun c xs r=>by rw [je (ntup c xs r)]; exact r
   rcases hc with rfl | hc
   ·exact hbe
   ·rintro rfl
    rcases he with z | z
    ·exact nown c b hc z
    ·rw [hc] at z; cases z; exact hb rfl
end
structure Un (fs ex:List Addr) (H H':Hp) (h h':Heap) : Prop where
 keep : ∀ b o,h.get? b = some o → H b = none → b ∉ fs → b ∉ ex → h'.get? b = some o
 slot : ∀ b o,h.get? b = some o → H b = none → b ∈ fs → b ∉ ex → ∃ sl,h'.get? b = some { o with slots:=sl }
 free : ∀ b o,h.get? b = some o → H b = none → b ∉ ex → H' b = none
 there : ∀ b o,h.get? b = some o → b ∉ ex → ∃ o',h'.get? b = some o'
 jr7 : ∀ b xs,H b = some (.tup xs) → H' b = some (.tup xs)
 jrz : ∀ b o u,H b = some (.frz o u) → H' b = some (.frz o u)
 jsi : ∀ b ps,H b = some (.tbl ps) → ∃ more,H' b = some (.tbl (ps ++ more))
section
variable {fs fs' ex ex':List Addr} {H H1 H2:Hp} {h h1 h2 h':Heap} {a x e:Addr} {o:HO}
theorem Un.any (u:Un fs ex H H1 h h1) {b:Addr} {ob:Obj} (q:h.get? b = some ob) (n:H b = none) (hx:b ∉ ex) : ∃ sl,h1.get? b = some { ob with slots:=sl }:=by
 by_cases hb:b ∈ fs
 ·exact u.slot b ob q n hb hx
 ·exact ⟨ob.slots,u.keep b ob q n hb hx⟩
theorem Un.kept (k : ∀ b u,h.get? b = some u → h'.get? b = some u) : Un fs ex H H h h':=
 ⟨fun b ob q _ _ _=>k b ob q,fun b ob q _ _ _=>⟨ob.slots,k b ob q⟩,fun _ _ _ n _=>n,fun b ob q _=>⟨ob,k b ob q⟩,fun _ _ q=>q,fun _ _ _ q=>q,fun _ ps q=>⟨#[],by rw [q]; simp⟩⟩
theorem Un.refl:Un fs ex H H h h:=Un.kept fun _ _ q=>q
theorem Un.laid (k : ∀ b u,h.get? b = some u → h'.get? b = some u) (hp:h.objs.size ≤ a) (hn:H a = none) : Un fs ex H (upd H a o) h h' where
 keep:=fun b u q _ _ _=>k b u q
 slot:=fun b u q _ _ _=>⟨u.slots,k b u q⟩
 free:=fun b u q n _=>by rw [je (Nat.ne_of_lt (Nat.lt_of_lt_of_le (Heap.lt_size q) hp))]; exact n
 there:=fun b u q _=>⟨u,k b u q⟩
 jr7:=fun b xs q=>by rw [je (jk q hn)]; exact q
 jrz:=fun b u xs q=>by rw [je (jk q hn)]; exact q
 jsi:=fun b ps q=>⟨#[],by rw [je (jk q hn),q]; simp⟩
theorem Un.write (mu:Mut (H x)) (he:e = x ∨ H e = some (.own x)) (k : ∀ b u,b ≠ e → h.get? b = some u → h'.get? b = some u) (heo : ∃ u,h'.get? e = some u) : Un fs ex H (upd H x o) h h':=by
 have hx : ∀ b,H b = none → b ≠ x:=fun b n z=>by subst z; rw [n] at mu; exact mu
 have hb : ∀ b,H b = none → b ≠ e:=fun b n z=>by
  subst z
  rcases he with r | r
  ·exact hx b n r
  ·rw [n] at r; cases r
 have hm : ∀ b u,H b = some u → ¬ Mut (some u) → b ≠ x:=fun b u q nm z=>by subst z; rw [q] at mu; exact nm mu
 refine ⟨fun b u q n _ _=>k b u (hb b n) q,fun b u q n _ _=>⟨u.slots,k b u (hb b n) q⟩,fun b u q n _=>by rw [je (hx b n)]; exact n,fun b u q _=>?_,
  fun b xs q=>by rw [je (hm b _ q fun z=>z)]; exact q,fun b u xs q=>by rw [je (hm b _ q fun z=>z)]; exact q,fun b ps q=>⟨#[],by rw [je (hm b _ q fun z=>z),q]; simp⟩⟩
 by_cases hbe:b = e
 ·subst hbe; exact heo
 ·exact ⟨u,k b u hbe q⟩
end
def trk (h:Heap) (H:Hp) : List Addr:=(List.range h.objs.size).filter fun a=>(H a).isSome
def jz0 (h:Heap) (H:Hp) : Heap:=PySem.W.hideAll h (trk h H)
theorem jw7 (h:Heap) (H:Hp) : (jz0 h H).objs.size = h.objs.size:=PySem.W.hideAll_size _ _
theorem jzv {h:Heap} {H:Hp} {b:Addr} {o:Obj} (e:h.get? b = some o) (n:H b = none) : (jz0 h H).get? b = some o:=
 PySem.W.hideAll_get _ e fun hm=>by
  have q:(H b).isSome = true:=(List.mem_filter.mp hm).2
  rw [n] at q; simp at q
theorem j2x {h:Heap} {H:Hp} {b:Addr} {o:Obj} (e:(jz0 h H).get? b = some o) : h.get? b = some o ∧ H b = none:=by
 have e':h.get? b = some o:=PySem.W.of_hideAll (trk h H) e
 refine ⟨e',?_⟩
 cases q:H b with
 | none=>rfl
 | some x=>
  have hm:b ∈ trk h H:=List.mem_filter.mpr ⟨List.mem_range.mpr (Heap.lt_size e'),by simp [q]⟩
  have z:(jz0 h H).get? b = none:=PySem.W.hideAll_none (trk h H) hm
  rw [z] at e; cases e
end L2
namespace L2
open PySem PySem.Spec PyProof.Rows
structure Mod (K:PySem.W.Frag) (mg:Str → Option Value) (base:Heap) : Prop where
 kin:K.In base
 glob:base.Ns mainGlobals mg
 blt : ∃ mb,base.Ns builtinsNs mb ∧ ∀ x:Str,x ≠ "__name__" → mb x = bootBuiltins x
 nolimit:base.NoLimit
structure Cx where
 prog:Program
 w:World
 K:PySem.W.Frag
 mg:Str → Option Value
 base:Heap
 A:Around
 N:List Str
 s₀:Shared
 H₀:Hp
 env:Env
 outer:List Env
 stack:List Env
 ex:List Addr
 fn:Str → Bool
 calm:Bool
 pn:List (Addr × Obj)
 xe:Value → Shared → Prop
def frs (l:List Env) : List Addr:=l.filterMap (·.frame)
abbrev Cx.fs (X:Cx) : List Addr:=frs X.outer
def Vis (sc:Scope) (x:Str) : Prop:=sc.names.lookup x = some .local ∨ sc.names.lookup x = some .cell ∨ sc.names.lookup x = some .free
def Loc (sc:Scope) (x:Str) : Prop:=sc.names.lookup x = some .local ∨ sc.names.lookup x = some .cell
def Look (env:Env) (h:Heap) (m:Str → Option Value) (x:Str) (u:Value) : Prop:=
 (env.kindOf x = some .local ∧ m x = some u) ∨ ((env.kindOf x = some .cell ∨ env.kindOf x = some .free) ∧ ∃ c,env.cells.lookup x = some c ∧ h.IsCell c (some u))
structure Cx.Ok (X:Cx) : Prop where
 mod:Mod X.K X.mg X.base
 kind:X.env.scope.kind = .function
 glob:X.env.globals = mainGlobals
 blt:X.env.builtins = builtinsNs
 above:X.s₀.heap.objs.size ≤ X.env.locals
 inj : ∀ x y c,X.env.cells.lookup x = some c → X.env.cells.lookup y = some c → x = y
 has : ∀ x,(X.env.kindOf x = some .cell ∨ X.env.kindOf x = some .free) → ∃ c,X.env.cells.lookup x = some c
 cab : ∀ x c,X.fn x = true → X.env.cells.lookup x = some c → X.s₀.heap.objs.size ≤ c
 hd:X.calm = true → X.A.handled = none
 frames:X.A.frames = some X.stack
 stk:X.stack = X.outer ∨ (X.stack = X.env :: X.outer ∧ X.env.frame = some X.env.locals)
 exf : ∀ b ∈ X.ex,b ≠ X.env.locals ∧ ∀ x c,X.env.cells.lookup x = some c → c ≠ b
 bs : ∀ b o,X.base.get? b = some o → X.s₀.heap.get? b = some o ∧ X.H₀ b = none
 bsz:X.base.objs.size ≤ X.s₀.heap.objs.size
 j2s : ∀ b o,X.base.get? b = some o → b ∉ X.ex
 j3r : ∀ b ∈ X.ex,b ∉ X.fs
 jt1:X.s₀.heap.FunFrames X.base X.outer
 frf : ∀ b ∈ X.fs,X.H₀ b = none
structure Inv (X:Cx) (pins:List (Addr × Obj)) (σ : List (Option V)) (H:Hp) (s:Shared) : Prop where
 ok:X.Ok
 os:s.os = X.s₀.os
 bare:AllBare s.gens
 base:Un X.fs X.ex X.H₀ H X.s₀.heap s.heap
 loc : ∃ m,s.heap.Ns X.env.locals m ∧ ∀ (i:Nat) (x:Str) (v:V),X.N[i]? = some x → σ[i]? = some (some v) → Vis X.env.scope x → ∃ u,RelV v u ∧ Look X.env s.heap m x u
 cell : ∀ x c,X.env.cells.lookup x = some c → ∃ v,s.heap.IsCell c v
 free:H X.env.locals = none
 jfe : ∀ x c,X.env.cells.lookup x = some c → H c = none
 pin : ∀ p ∈ X.pn ++ pins,s.heap.get? p.1 = some p.2 ∧ H p.1 = none ∧ p.1 ≠ X.env.locals ∧ p.1 ∉ X.fs ∧ ∀ v,p.2.data ≠ .cell v
 hok:HOk X.prog X.w H s.heap
 len : σ.length = X.N.length
section
variable {X:Cx} {pins:List (Addr × Obj)} {σ : List (Option V)} {H H':Hp} {s:Shared} {h':Heap}
theorem Cx.Ok.j8o (ok:X.Ok) {b:Addr} {o:Obj} (e:X.base.get? b = some o) : b ∉ X.fs:=fun hb=>by
 have:=(ok.jt1.mem hb).1
 rw [e] at this; cases this
theorem Inv.bs (I:Inv X pins σ H s) : ∀ b o,X.base.get? b = some o → s.heap.get? b = some o ∧ H b = none:=fun b o e=>
 ⟨I.base.keep b o (I.ok.bs b o e).1 (I.ok.bs b o e).2 (I.ok.j8o e) (I.ok.j2s b o e),I.base.free b o (I.ok.bs b o e).1 (I.ok.bs b o e).2 (I.ok.j2s b o e)⟩
theorem Inv.bk (I:Inv X pins σ H s) : ∀ b o,X.base.get? b = some o → s.heap.get? b = some o:=fun b o e=>(I.bs b o e).1
theorem Inv.mod (I:Inv X pins σ H s) : Mod X.K X.mg X.base:=I.ok.mod
theorem Inv.kIn (I:Inv X pins σ H s) : X.K.In s.heap:=I.ok.mod.kin.keeps I.bk
theorem Inv.lt (I:Inv X pins σ H s) : X.env.locals < s.heap.objs.size:=let ⟨_,hn,_⟩:=I.loc; hn.lt
theorem Inv.sz (I:Inv X pins σ H s) : X.s₀.heap.objs.size ≤ s.heap.objs.size:=Nat.le_trans I.ok.above (Nat.le_of_lt I.lt)
theorem Inv.j7h (I:Inv X pins σ H s) {a:Addr} (h:s.heap.objs.size ≤ a) : a ∉ X.fs:=fun hb=>by
 obtain ⟨_,o,ho,_⟩:=I.ok.jt1.mem hb
 exact absurd (Nat.lt_of_lt_of_le (Heap.lt_size ho) (Nat.le_trans I.sz h)) (Nat.lt_irrefl _)
theorem Inv.cne (I:Inv X pins σ H s) : ∀ x c,X.env.cells.lookup x = some c → c ≠ X.env.locals:=fun x c e z=>by
 obtain ⟨v,o,ho,hd⟩:=I.cell x c e
 obtain ⟨m,⟨o',es,ep,ho',hd',_⟩,_⟩:=I.loc
 rw [z,ho'] at ho; cases ho; rw [hd'] at hd; cases hd
theorem Inv.jt1 (I:Inv X pins σ H s) : s.heap.FunFrames X.base X.outer:=by
 have all : ∀ (l:List Env),(∀ b ∈ frs l,b ∈ X.fs) → X.s₀.heap.FunFrames X.base l → s.heap.FunFrames X.base l:=by
  intro l
  induction l with
  | nil=>intro _ _; trivial
  | cons env r ih=>
   intro hs hl
   obtain ⟨hk,⟨L,o,hf,hn,ho,hd⟩,hr⟩:=hl
   have hL:L ∈ X.fs:=hs L (by unfold frs; rw [List.filterMap_cons,hf]; exact List.mem_cons_self)
   obtain ⟨sl,e⟩:=I.base.slot L o ho (I.ok.frf L hL) hL fun z=>I.ok.j3r L z hL
   exact ⟨hk,⟨L,_,hf,hn,e,hd⟩,ih (fun b hb=>hs b (by unfold frs; rw [List.filterMap_cons,hf]; exact List.mem_cons_of_mem _ hb)) hr⟩
 exact all X.outer (fun _ hb=>hb) I.ok.jt1
theorem Inv.stack (I:Inv X pins σ H s) : s.heap.FunFrames X.base X.stack:=by
 rcases I.ok.stk with e | ⟨e,hf⟩
 ·rw [e]; exact I.jt1
 ·rw [e]
  obtain ⟨m,hn,_⟩:=I.loc
  refine .cons (by rw [I.ok.kind]; decide) hf hn ?_ I.jt1
  exact Heap.get?_none_of_le (Nat.le_trans I.ok.bsz I.ok.above)
theorem Inv.jpt (I:Inv X pins σ H s) : ∀ b ∈ frs X.stack,b ∈ X.env.locals :: X.fs:=fun b hb=>by
 rcases I.ok.stk with e | ⟨e,hf⟩
 ·rw [e] at hb; exact List.mem_cons_of_mem _ hb
 ·rw [e] at hb
  unfold frs at hb
  rw [List.filterMap_cons,hf] at hb
  exact hb
theorem Inv.jr0 (I:Inv X pins σ H s) : ∀ b ∈ frs X.stack,H b = none:=fun b hb=>by
 rcases List.mem_cons.mp (I.jpt b hb) with e | hb
 ·rw [e]; exact I.free
 ·obtain ⟨_,o,ho,_⟩:=I.ok.jt1.mem hb
  exact I.base.free b o ho (I.ok.frf b hb) fun z=>I.ok.j3r b z hb
theorem Inv.step {g':Array GenState} {t':Nat} {d':Drawn} {ch:List Addr} (I:Inv X pins σ H s)
  (hch : ∀ b ∈ ch,(b ∈ X.ex ∨ X.s₀.heap.objs.size ≤ b) ∧ b ≠ X.env.locals ∧ (∀ x c,X.env.cells.lookup x = some c → c ≠ b) ∧ ∀ p ∈ X.pn ++ pins,p.1 ≠ b)
  (keep : ∀ b o,b ≠ X.env.locals → b ∉ X.fs → b ∉ ch → s.heap.get? b = some o → H b = none → h'.get? b = some o)
  (slot : ∀ b o,b ≠ X.env.locals → b ∈ X.fs → b ∉ ch → s.heap.get? b = some o → H b = none → ∃ sl,h'.get? b = some { o with slots:=sl }) (free : ∀ b o,b ∉ ch → s.heap.get? b = some o → H b = none → H' b = none)
  (there : ∀ b o,b ∉ ch → s.heap.get? b = some o → ∃ o',h'.get? b = some o')
  (jr7 : ∀ b xs,H b = some (.tup xs) → H' b = some (.tup xs)) (jrz : ∀ b o u,H b = some (.frz o u) → H' b = some (.frz o u)) (jsi : ∀ b ps,H b = some (.tbl ps) → ∃ more,H' b = some (.tbl (ps ++ more)))
  (ns : ∀ m,s.heap.Ns X.env.locals m → h'.Ns X.env.locals m) (hok:HOk X.prog X.w H' h') (hg:AllBare g') :
  Inv X pins σ H' { s with heap:=h',gens:=g',drawn:=d',toks:=t' }:=by
 have neL : ∀ b o,X.s₀.heap.get? b = some o → b ≠ X.env.locals:=fun b o e=>Nat.ne_of_lt (Nat.lt_of_lt_of_le (Heap.lt_size e) I.ok.above)
 have neC : ∀ b o,X.s₀.heap.get? b = some o → b ∉ X.ex → b ∉ ch:=fun b o e hx hb=>by
  rcases (hch b hb).1 with z | z
  ·exact hx z
  ·exact absurd (Nat.lt_of_lt_of_le (Heap.lt_size e) z) (Nat.lt_irrefl _)
 have cellK : ∀ x c,X.env.cells.lookup x = some c → ∀ v,s.heap.IsCell c v → h'.IsCell c v:=fun x c e v ⟨o,ho,hd⟩=>by
  have nch:c ∉ ch:=fun z=>(hch c z).2.2.1 x c e rfl
  by_cases hc:c ∈ X.fs
  ·obtain ⟨sl,q⟩:=slot c o (I.cne x c e) hc nch ho (I.jfe x c e)
   exact ⟨_,q,hd⟩
  ·exact ⟨o,keep c o (I.cne x c e) hc nch ho (I.jfe x c e),hd⟩
 refine ⟨I.ok,I.os,hg,⟨fun b o e n hb hx=>?_,fun b o e n hb hx=>?_,fun b o e n hx=>?_,fun b o e hx=>?_,fun b xs e=>jr7 b xs (I.base.jr7 b xs e),fun b o xs e=>jrz b o xs (I.base.jrz b o xs e),fun b ps e=>?_⟩,?_,fun x c e=>?_,?_,fun x c e=>?_,fun p hp=>?_,hok,I.len⟩
 ·exact keep b o (neL b o e) hb (neC b o e hx) (I.base.keep b o e n hb hx) (I.base.free b o e n hx)
 ·obtain ⟨sl,e1⟩:=I.base.slot b o e n hb hx
  obtain ⟨sl',e2⟩:=slot b _ (neL b o e) hb (neC b o e hx) e1 (I.base.free b o e n hx)
  exact ⟨sl',e2⟩
 ·obtain ⟨o',e1⟩:=I.base.there b o e hx
  exact free b o' (neC b o e hx) e1 (I.base.free b o e n hx)
 ·obtain ⟨o',e1⟩:=I.base.there b o e hx
  exact there b o' (neC b o e hx) e1
 ·obtain ⟨m1,e1⟩:=I.base.jsi b ps e
  obtain ⟨m2,e2⟩:=jsi b _ e1
  exact ⟨m1 ++ m2,by rw [e2,Array.append_assoc]⟩
 ·obtain ⟨m,hn,hl⟩:=I.loc
  refine ⟨m,ns m hn,fun i x v e1 e2 e3=>?_⟩
  obtain ⟨u,r,l⟩:=hl i x v e1 e2 e3
  refine ⟨u,r,?_⟩
  rcases l with l | ⟨k,c,e,z⟩
  ·exact .inl l
  ·exact .inr ⟨k,c,e,cellK x c e _ z⟩
 ·obtain ⟨v,z⟩:=I.cell x c e
  exact ⟨v,cellK x c e v z⟩
 ·obtain ⟨m,⟨o,_,_,ho,_⟩,_⟩:=I.loc
  exact free _ o (fun z=>(hch _ z).2.1 rfl) ho I.free
 ·obtain ⟨v,o,ho,hd⟩:=I.cell x c e
  exact free c o (fun z=>(hch c z).2.2.1 x c e rfl) ho (I.jfe x c e)
 ·obtain ⟨e,n,ne,nf,d⟩:=I.pin p hp
  have nch:p.1 ∉ ch:=fun z=>(hch p.1 z).2.2.2 p hp rfl
  exact ⟨keep p.1 p.2 ne nf nch e n,free p.1 p.2 nch e n,ne,nf,d⟩
theorem Inv.un {t':Nat} (I:Inv X pins σ H s) (u:Un X.fs [] H H' s.heap h') (hok:HOk X.prog X.w H' h') : Inv X pins σ H' { s with heap:=h',toks:=t' }:=by
 obtain ⟨m,⟨o,es,ep,ho,r⟩,_⟩:=id I.loc
 obtain ⟨sl,hL⟩:=u.any ho I.free (by simp)
 exact I.step (g':=s.gens) (d':=s.drawn) (ch:=[]) (fun _ z=>nomatch z) (fun b o _ hb _ e n=>u.keep b o e n hb (by simp)) (fun b o _ hb _ e n=>u.slot b o e n hb (by simp)) (fun b o _ e n=>u.free b o e n (by simp)) (fun b o _ e=>u.there b o e (by simp)) u.jr7 u.jrz u.jsi (fun m' hm=>by
  obtain ⟨o',es',ep',ho',r'⟩:=hm
  rw [ho] at ho'; cases ho'
  exact ⟨_,es',ep',hL,r'⟩) hok I.bare
theorem Inv.call {g':Array GenState} {t':Nat} {d':Drawn} {ch:List Addr} (I:Inv X pins σ H s) (u:Un (frs X.stack) ch H H' s.heap h') (hok:HOk X.prog X.w H' h') (hg:AllBare g')
  (hch : ∀ b ∈ ch,(b ∈ X.ex ∨ X.s₀.heap.objs.size ≤ b) ∧ b ≠ X.env.locals ∧ (∀ x c,X.env.cells.lookup x = some c → c ≠ b) ∧ ∀ p ∈ X.pn ++ pins,p.1 ≠ b) :
  Inv X pins σ H' { s with heap:=h',gens:=g',drawn:=d',toks:=t' }:=by
 obtain ⟨m,⟨o,es,ep,ho,r⟩,_⟩:=id I.loc
 obtain ⟨sl,hL⟩:=u.any ho I.free fun z=>(hch _ z).2.1 rfl
 exact I.step (ch:=ch) hch (fun b o hL hb hc e n=>u.keep b o e n (fun z=>(List.mem_cons.mp (I.jpt b z)).elim hL hb) hc) (fun b o _ _ hc e n=>u.any e n hc) (fun b o hc e n=>u.free b o e n hc) (fun b o hc e=>u.there b o e hc) u.jr7 u.jrz u.jsi (fun m' hm=>by
  obtain ⟨o',es',ep',ho',r'⟩:=hm
  rw [ho] at ho'; cases ho'
  exact ⟨_,es',ep',hL,r'⟩) hok hg
theorem Inv.turned {t':Nat} {it:Addr} (I:Inv X pins σ H s) (k : ∀ b o,b ≠ it → s.heap.get? b = some o → h'.get? b = some o) (hn:H it = none) (hL:it ≠ X.env.locals)
  (h1:it ∈ X.ex ∨ X.s₀.heap.objs.size ≤ it) (h2 : ∀ x c,X.env.cells.lookup x = some c → c ≠ it) (h3 : ∀ p ∈ X.pn ++ pins,p.1 ≠ it) : Inv X pins σ H { s with heap:=h',toks:=t' }:=by
 have nit : ∀ b u,H b = some u → b ≠ it:=fun b u e z=>by rw [z,hn] at e; cases e
 refine I.step (g':=s.gens) (d':=s.drawn) (ch:=[it]) (fun b hb=>?_) (fun b o _ _ hc e _=>k b o (fun z=>hc (by simp [z])) e) (fun b o _ _ hc e _=>⟨o.slots,k b o (fun z=>hc (by simp [z])) e⟩) (fun _ _ _ _ n=>n)
  (fun b o hc e=>⟨o,k b o (fun z=>hc (by simp [z])) e⟩) (fun _ _ e=>e) (fun _ _ _ e=>e) (fun b ps e=>⟨#[],by rw [e]; simp⟩) (fun m hm=>?_) (fun b u e=>?_) I.bare
 ·have e:b = it:=by simpa using hb
  subst e
  exact ⟨h1,hL,h2,h3⟩
 ·obtain ⟨o,es,ep,ho,r⟩:=hm
  exact ⟨o,es,ep,k _ o (Ne.symm hL) ho,r⟩
 ·refine (I.hok b u e).jpx (fun c v hc q=>k c v ?_ q) (fun _ q=>q) fun _ _ q=>q
  rcases hc with z | z
  ·rw [z]; exact nit b u e
  ·exact nit c _ z
theorem Inv.tok (I:Inv X pins σ H s) (t:Nat) : Inv X pins σ H { s with toks:=t }:=I.un (h':=s.heap) (t':=t) Un.refl I.hok
theorem Inv.kept {t':Nat} (I:Inv X pins σ H s) (k : ∀ b u,s.heap.get? b = some u → h'.get? b = some u) : Inv X pins σ H { s with heap:=h',toks:=t' }:=I.un (Un.kept k) (I.hok.kept k)
theorem Inv.laid {a:Addr} {o:HO} {t':Nat} (I:Inv X pins σ H s) (k : ∀ b u,s.heap.get? b = some u → h'.get? b = some u) (hp:s.heap.objs.size ≤ a) (new:we X.prog X.w (upd H a o) h' a o) :
  Inv X pins σ (upd H a o) { s with heap:=h',toks:=t' }:=I.un (Un.laid k hp (I.hok.fresh hp)) (I.hok.laid k hp new)
theorem Inv.write {x e:Addr} {o:HO} {t':Nat} (I:Inv X pins σ H s) (mu:Mut (H x)) (he:e = x ∨ H e = some (.own x)) (k : ∀ b u,b ≠ e → s.heap.get? b = some u → h'.get? b = some u) (heo : ∃ u,h'.get? e = some u)
  (new:we X.prog X.w (upd H x o) h' x o) : Inv X pins σ (upd H x o) { s with heap:=h',toks:=t' }:=I.un (Un.write mu he k heo) (I.hok.write mu he k heo new)
theorem Inv.jq2 {pins':List (Addr × Obj)} (I:Inv X pins σ H s) (h : ∀ p ∈ pins',s.heap.get? p.1 = some p.2 ∧ H p.1 = none ∧ p.1 ≠ X.env.locals ∧ p.1 ∉ X.fs ∧ ∀ v,p.2.data ≠ .cell v) : Inv X pins' σ H s:=
 ⟨I.ok,I.os,I.bare,I.base,I.loc,I.cell,I.free,I.jfe,fun p hp=>(List.mem_append.mp hp).elim (fun z=>I.pin p (List.mem_append_left _ z)) (h p),I.hok,I.len⟩
theorem jr2 {N:List Str} (hN:N.Nodup) {i j:Nat} {x:Str} (a:N[i]? = some x) (b:N[j]? = some x) : i = j:=by
 obtain ⟨h1,e1⟩:=List.getElem?_eq_some_iff.mp a
 obtain ⟨h2,e2⟩:=List.getElem?_eq_some_iff.mp b
 exact (List.getElem_inj hN).mp (e1.trans e2.symm)
theorem jsj {M:Model} {A:Around} {E:Value → Shared → Prop} {i:Nat} {x:Str} {v:V} {u:Value} {Q:Unit → Shared → Prop} (I:Inv X pins σ H s) (hN:X.N.Nodup) (hi:X.N[i]? = some x) (hx:Loc X.env.scope x) (r:RelV v u)
    (h : ∀ s',Inv X pins (σ.set i (some v)) H s' → (∃ a,Heap.SameBut a s.heap s'.heap ∧ (a = X.env.locals ∨ X.env.cells.lookup x = some a)) → Q () s') (hf:X.fn x = true ∨ X.env.scope.names.lookup x = some .local:=by first | exact .inl rfl | exact .inr rfl | assumption) : wpAny M A (storeName X.env x u) Q E s:=by
  obtain ⟨m,hn,hl⟩:=id I.loc
  have hcls:(X.env.scope.kind == .class || (X.env.scope.kind == .module && X.env.locals != X.env.globals)) = false:=by rw [I.ok.kind]; rfl
  have hiσ : i < σ.length:=by rw [I.len]; exact (List.getElem?_eq_some_iff.mp hi).1
  have cne:=I.cne
  have tracked : ∀ {a:Addr} {h':Heap},(∃ o,s.heap.get? a = some o ∧ H a = none) → Heap.SameBut a s.heap h' → HOk X.prog X.w H h':=fun {a h'} ha hs b ob e=>by
    obtain ⟨_,_,hfree⟩:=ha
    refine (I.hok b ob e).jpx (fun c w' hc q=>(hs.2 c ?_).trans q) (fun _ q=>q) fun _ _ q=>q
    rintro rfl
    rcases hc with rfl | hc
    · rw [hfree] at e; cases e
    · rw [hfree] at hc; cases hc
  rcases hx with hk | hk
  · refine wpAny_storeName_local hk hn (fun h' hn' hs=>?_) hcls
    obtain ⟨oL,_,_,hoL,_⟩:=id hn
    refine h _ ⟨I.ok,I.os,I.bare,⟨fun b o e n hb hx=>?_,fun b o e n hb hx=>?_,I.base.free,fun b o e hx=>?_,I.base.jr7,I.base.jrz,I.base.jsi⟩,⟨_,hn',fun j y v' e1 e2 e3=>?_⟩,fun y c e=>?_,I.free,I.jfe,fun p hp=>?_,tracked ⟨oL,hoL,I.free⟩ hs,by simpa using I.len⟩ ⟨_,hs,.inl rfl⟩
    · exact (hs.2 b (Nat.ne_of_lt (Nat.lt_of_lt_of_le (Heap.lt_size e) I.ok.above))).trans (I.base.keep b o e n hb hx)
    · obtain ⟨sl,e1⟩:=I.base.slot b o e n hb hx
      exact ⟨sl,(hs.2 b (Nat.ne_of_lt (Nat.lt_of_lt_of_le (Heap.lt_size e) I.ok.above))).trans e1⟩
    · obtain ⟨o',e1⟩:=I.base.there b o e hx
      exact ⟨o',(hs.2 b (Nat.ne_of_lt (Nat.lt_of_lt_of_le (Heap.lt_size e) I.ok.above))).trans e1⟩
    · by_cases hj:j = i
      · subst hj
        rw [hi] at e1; cases e1
        rw [List.getElem?_set_self hiσ] at e2
        cases e2
        exact ⟨u,r,.inl ⟨hk,by simp⟩⟩
      · rw [List.getElem?_set_ne (Ne.symm hj)] at e2
        obtain ⟨u',r',q⟩:=hl j y v' e1 e2 e3
        refine ⟨u',r',?_⟩
        rcases q with ⟨k,e⟩ | ⟨k,c,e,z⟩
        · refine .inl ⟨k,?_⟩
          have:y ≠ x:=fun e=>hj (jr2 hN e1 (e ▸ hi))
          simp [this,e]
        · exact .inr ⟨k,c,e,z.sameBut hs (cne y c e)⟩
    · obtain ⟨w',z⟩:=I.cell y c e
      exact ⟨w',z.sameBut hs (cne y c e)⟩
    · obtain ⟨e,n,ne,nf,d⟩:=I.pin p hp
      exact ⟨(hs.2 p.1 ne).trans e,n,ne,nf,d⟩
  · have hfn:X.fn x = true:=by
      rcases hf with z | z
      · exact z
      · rw [z] at hk; cases hk
    obtain ⟨c,hc⟩:=I.ok.has x (.inl hk)
    obtain ⟨w',z⟩:=I.cell x c hc
    refine wpAny_storeName_cell I.ok.kind hk hc z (fun h' hc' hs=>?_)
    obtain ⟨oc,hoc,hocd⟩:=id z
    refine h { s with heap:=h' } ⟨I.ok,I.os,I.bare,⟨fun b o e n hb hx=>?_,fun b o e n hb hx=>?_,I.base.free,fun b o e hx=>?_,I.base.jr7,I.base.jrz,I.base.jsi⟩,⟨m,hn.sameBut hs (Ne.symm (cne x c hc)),fun j y v' e1 e2 e3=>?_⟩,fun y c' e=>?_,I.free,I.jfe,fun p hp=>?_,tracked ⟨oc,hoc,I.jfe x c hc⟩ hs,by simpa using I.len⟩ ⟨c,hs,.inr hc⟩
    · exact (hs.2 b (Nat.ne_of_lt (Nat.lt_of_lt_of_le (Heap.lt_size e) (I.ok.cab x c hfn hc)))).trans (I.base.keep b o e n hb hx)
    · obtain ⟨sl,e1⟩:=I.base.slot b o e n hb hx
      exact ⟨sl,(hs.2 b (Nat.ne_of_lt (Nat.lt_of_lt_of_le (Heap.lt_size e) (I.ok.cab x c hfn hc)))).trans e1⟩
    · obtain ⟨o',e1⟩:=I.base.there b o e hx
      exact ⟨o',(hs.2 b (Nat.ne_of_lt (Nat.lt_of_lt_of_le (Heap.lt_size e) (I.ok.cab x c hfn hc)))).trans e1⟩
    · by_cases hj:j = i
      · subst hj
        rw [hi] at e1; cases e1
        rw [List.getElem?_set_self hiσ] at e2
        cases e2
        exact ⟨u,r,.inr ⟨.inl hk,c,hc,hc'⟩⟩
      · rw [List.getElem?_set_ne (Ne.symm hj)] at e2
        obtain ⟨u',r',q⟩:=hl j y v' e1 e2 e3
        refine ⟨u',r',?_⟩
        rcases q with q | ⟨k,c',e,z'⟩
        · exact .inl q
        · refine .inr ⟨k,c',e,z'.sameBut hs ?_⟩
          rintro rfl
          exact hj (jr2 hN e1 (I.ok.inj _ _ _ e hc ▸ hi))
    · by_cases hcc:c' = c
      · subst hcc; exact ⟨_,hc'⟩
      · obtain ⟨w2,z2⟩:=I.cell y c' e
        exact ⟨w2,z2.sameBut hs hcc⟩
    · obtain ⟨e,n,ne,nf,d⟩:=I.pin p hp
      refine ⟨(hs.2 p.1 ?_).trans e,n,ne,nf,d⟩
      intro q
      rw [q,hoc] at e
      have q':oc = p.2:=Option.some.inj e
      exact d w' (by rw [← q']; exact hocd)
theorem jn0 {M:Model} {A:Around} {E:Value → Shared → Prop} {i:Nat} {x:Str} {v:V} {u:Value} {Q:Unit → Shared → Prop} (I:Inv X pins σ H s) (hN:X.N.Nodup) (hi:X.N[i]? = some x) (hx:Loc X.env.scope x) (r:RelV v u)
  (h : ∀ s',Inv X pins (σ.set i (some v)) H s' → Q () s') (hf:X.fn x = true ∨ X.env.scope.names.lookup x = some .local:=by first | exact .inl rfl | exact .inr rfl | assumption) : wpAny M A (storeName X.env x u) Q E s:=
 jsj I hN hi hx r (fun s' I' _=>h s' I') hf
theorem Inv.j25 {s':Shared} {ch:List Addr} (I:Inv X pins σ H s) (ho:s'.os = s.os) (u:Un (frs X.stack) ch H H' s.heap s'.heap) (hok:HOk X.prog X.w H' s'.heap) (hg:AllBare s'.gens)
  (hch : ∀ b ∈ ch,(b ∈ X.ex ∨ X.s₀.heap.objs.size ≤ b) ∧ b ≠ X.env.locals ∧ (∀ x c,X.env.cells.lookup x = some c → c ≠ b) ∧ ∀ p ∈ X.pn ++ pins,p.1 ≠ b) : Inv X pins σ H' s':=by
 obtain ⟨h',g',d',t',o'⟩:=s'
 have e:o' = s.os:=ho
 subst e
 exact I.call (g':=g') (t':=t') (d':=d') u hok hg hch
end
abbrev XK:=Value → Option Addr → Hp → Prop
abbrev St:=List (Option V)
abbrev VK:=V → Hp → Prop
abbrev TE:=St → Hp → VK → Prop
abbrev TT:=St → Hp → (Bool → Hp → Prop) → Prop
abbrev TA:=St → Hp → (List V → Hp → Prop) → Prop
structure Ends where
 nx:St → Hp → Prop
 rt:VK
 bk:St → Hp → Prop:=fun _ _=>False
 ct:St → Hp → Prop:=fun _ _=>False
abbrev TS:=Ends → St → Hp → Prop
def EP (X:Cx) (pins:List (Addr × Obj)) (σ : St) (Q:VK) (u:Value) (s':Shared) : Prop:=∃ v H',Inv X pins σ H' s' ∧ RelV v u ∧ Q v H'
def TP (X:Cx) (pins:List (Addr × Obj)) (σ : St) (Q:Bool → Hp → Prop) (b:Bool) (s':Shared) : Prop:=∃ H',Inv X pins σ H' s' ∧ Q b H'
def AP (X:Cx) (pins:List (Addr × Obj)) (σ : St) (Q:List V → Hp → Prop) (us:List Value) (s':Shared) : Prop:=∃ vs H',Inv X pins σ H' s' ∧ Vals vs us ∧ Q vs H'
def SP (X:Cx) (pins:List (Addr × Obj)) (D:Ends) (f:Flow) (s':Shared) : Prop:=
 match f with
 | .next=>∃ σ' H',Inv X pins σ' H' s' ∧ D.nx σ' H'
 | .brk=>∃ σ' H',Inv X pins σ' H' s' ∧ D.bk σ' H'
 | .cont=>∃ σ' H',Inv X pins σ' H' s' ∧ D.ct σ' H'
 | .ret u=>∃ v σ' H',Inv X pins σ' H' s' ∧ RelV v u ∧ D.rt v H'
def PE (X:Cx) (e:Expr) (t:TE) : Prop:=
 ∀ (pins:List (Addr × Obj)) (s:Shared) (σ : St) (H:Hp) (Q:VK),Inv X pins σ H s → t σ H Q → wpAny (model X.prog X.w) X.A (eval e X.env) (EP X pins σ Q) X.xe s
def PT (X:Cx) (e:Expr) (t:TT) : Prop:=
 ∀ (pins:List (Addr × Obj)) (s:Shared) (σ : St) (H:Hp) (Q:Bool → Hp → Prop),Inv X pins σ H s → t σ H Q → wpAny (model X.prog X.w) X.A (isTrue e X.env (eval e X.env)) (TP X pins σ Q) X.xe s
def PW (X:Cx) (e:Expr) (t:TT) : Prop:=
 ∀ (whole:Sem Value) (pins:List (Addr × Obj)) (s:Shared) (σ : St) (H:Hp) (Q:Bool → Hp → Prop),Inv X pins σ H s → t σ H Q → wpAny (model X.prog X.w) X.A (isTrue e X.env whole) (TP X pins σ Q) X.xe s
theorem PW.pt {X:Cx} {e:Expr} {t:TT} (h:PW X e t) : PT X e t:=h _
def PA (X:Cx) (es:List Expr) (t:TA) : Prop:=
 ∀ (pos:Pos) (pins:List (Addr × Obj)) (s:Shared) (σ : St) (H:Hp) (Q:List V → Hp → Prop),Inv X pins σ H s → t σ H Q → wpAny (model X.prog X.w) X.A (spliced (backTo pos (starEach es X.env))) (AP X pins σ Q) X.xe s
def PS (X:Cx) (st:Stmt) (t:TS) : Prop:=
 ∀ (pins:List (Addr × Obj)) (s:Shared) (σ : St) (H:Hp) (D:Ends),Inv X pins σ H s → t D σ H → wpAny (model X.prog X.w) X.A (exec st X.env) (SP X pins D) X.xe s
def PSs (X:Cx) (st:List Stmt) (t:TS) : Prop:=
 ∀ (pins:List (Addr × Obj)) (s:Shared) (σ : St) (H:Hp) (D:Ends),Inv X pins σ H s → t D σ H → wpAny (model X.prog X.w) X.A (execs st X.env) (SP X pins D) X.xe s
theorem thn {α : Type} {t:Sem α} {Q Q' : α → Shared → Prop} {M:Model} {A:Around} {E:Value → Shared → Prop} {s:Shared} (h:wpAny M A t Q E s) (hQ : ∀ a s,Q a s → Q' a s) : wpAny M A t Q' E s:=wpAny_mono h hQ fun _ _ x=>x
end L2
namespace L2
open PySem PySem.Spec PyProof.Rows
section
variable {X:Cx}
theorem bin {a b:Expr} {ta tb:TE} (ha:PE X a ta) (hb:PE X b tb) {pins:List (Addr × Obj)} {s:Shared} {σ : St} {H:Hp} {R:V → V → Hp → Prop} (I:Inv X pins σ H s) (h:ta σ H fun x H1=>tb σ H1 fun y H2=>R x y H2)
  {α : Type} {Q : α → Shared → Prop} {f:Value → Value → Sem α}
  (hf : ∀ v u s2 x y H2,Inv X pins σ H2 s2 → RelV x v → RelV y u → R x y H2 → wpAny (model X.prog X.w) X.A (f v u) Q X.xe s2) :
  wpAny (model X.prog X.w) X.A (eval a X.env) (fun v s₁=>wpAny (model X.prog X.w) X.A (eval b X.env) (fun u s₂=>wpAny (model X.prog X.w) X.A (f v u) Q X.xe s₂) X.xe s₁) X.xe s:=by
 refine thn (ha pins s σ H _ I h) fun v s1 ⟨x,H1,I1,r1,q1⟩=>?_
 refine thn (hb pins s1 σ H1 _ I1 q1) fun u s2 ⟨y,H2,I2,r2,q2⟩=>?_
 exact hf v u s2 x y H2 I2 r1 r2 q2
def j7j (i:Nat) : TE:=fun σ H Q=>∃ v,σ[i]? = some (some v) ∧ Q v H
def tC (v:V) : TE:=fun _ H Q=>Q v H
theorem j35 {i:Nat} {x:Str} {pos:Pos} (hN:X.N[i]? = some x) (hv:Vis X.env.scope x) (hd:(x == ("__debug__" : Str)) = false:=by decide) (hcd:(x == ("__classdict__" : Str)) = false:=by decide) : PE X (.Name x pos) (j7j i):=by
 intro pins s σ H Q I h
 obtain ⟨v,e,h⟩:=h
 obtain ⟨m,hn,hl⟩:=I.loc
 obtain ⟨u,r,l⟩:=hl i x v hN e hv
 have fin:EP X pins σ Q u s:=⟨v,H,I,r,h⟩
 rcases l with ⟨hk,hm⟩ | ⟨hk,c,hc,hcell⟩
 ·exact wpAny_Name (wpAny_loadName_local I.ok.kind hk hn hm fin) hd
 ·rcases hk with hk | hk
  ·exact wpAny_Name (wpAny_loadName_cell I.ok.kind hk hc hcell fin) hd
  ·exact wpAny_Name (wpAny_loadName_free I.ok.kind hk hc hcell fin hcd) hd
theorem jn {i j pos} : PE X (.Constant (.int i) j pos) (tC (.int i)):=fun _ _ _ H _ I h=>wpAny_Constant_int ⟨.int i,H,I.tok _,⟨_,rfl⟩,h⟩
theorem jkd {b j pos} : PE X (.Constant (.bool b) j pos) (tC (.bl b)):=fun _ _ _ H _ I h=>Constant_bool ⟨.bl b,H,I,rfl,h⟩
theorem ji4 {j pos} : PE X (.Constant .none j pos) (tC .non):=fun _ _ _ H _ I h=>Constant_none ⟨.non,H,I,rfl,h⟩
theorem wg {x j pos} : PE X (.Constant (.str x) j pos) (tC (.str x)):=fun _ _ _ H _ I h=>Calls.Constant_str ⟨.str x,H,I.tok _,⟨_,rfl⟩,h⟩
def Gl (X:Cx) (x:Str) : Prop:=X.env.kindOf x = some .globalImplicit
theorem jhq {E:Value → Shared → Prop} {pins:List (Addr × Obj)} {s:Shared} {σ : St} {H:Hp} {x:Str} {u:Value} {pos:Pos} {Q:Value → Shared → Prop} (I:Inv X pins σ H s) (hg:Gl X x) (hm:X.mg x = some u) (h:Q u s)
  (hd:(x == ("__debug__" : Str)) = false:=by decide) : wpAny (model X.prog X.w) X.A (eval (.Name x pos) X.env) Q E s:=
 Calls.Name_function_global I.ok.kind hg (Calls.loadGlobal_global (by rw [I.ok.glob]; exact I.mod.glob.keeps I.bk) hm h) hd
theorem ju7 {E:Value → Shared → Prop} {pins:List (Addr × Obj)} {s:Shared} {σ : St} {H:Hp} {x:Str} {u:Value} {pos:Pos} {Q:Value → Shared → Prop} (I:Inv X pins σ H s) (hg:Gl X x) (hm:X.mg x = none) (hv:bootBuiltins x = some u) (h:Q u s)
  (hn:x ≠ "__name__" := by decide) (hd:(x == ("__debug__" : Str)) = false:=by decide) : wpAny (model X.prog X.w) X.A (eval (.Name x pos) X.env) Q E s:=by
 obtain ⟨mb,h1,h2⟩:=I.mod.blt
 exact Calls.Name_function_global I.ok.kind hg (Calls.loadGlobal_builtin (by rw [I.ok.glob]; exact I.mod.glob.keeps I.bk) hm (by rw [I.ok.blt]; exact h1.keeps I.bk) ((h2 x hn).trans hv) h) hd
theorem zc {x:Str} {v:V} {u:Value} {pos:Pos} (hg:Gl X x) (hm:X.mg x = some u) (r:RelV v u) (hd:(x == ("__debug__" : Str)) = false:=by decide) : PE X (.Name x pos) (tC v):=
 fun _ _ _ H _ I h=>jhq I hg hm ⟨v,H,I,r,h⟩ hd
theorem jjx {x:Str} {v:V} {u:Value} {pos:Pos} (hg:Gl X x) (hm:X.mg x = none) (hv:bootBuiltins x = some u) (r:RelV v u) (hn:x ≠ "__name__" := by decide) (hd:(x == ("__debug__" : Str)) = false:=by decide) : PE X (.Name x pos) (tC v):=
 fun _ _ _ H _ I h=>ju7 I hg hm hv ⟨v,H,I,r,h⟩ hn hd
variable {a b:Expr} {ta tb:TE} {pos:Pos}
def PC (X:Cx) (op:CmpOp) (a b:Expr) (t:TE) : Prop:=
 ∀ (pins:List (Addr × Obj)) (s:Shared) (σ : St) (H:Hp) (Q:VK),Inv X pins σ H s → t σ H Q →
  wpAny (model X.prog X.w) X.A (eval a X.env) (fun v s₁=>wpAny (model X.prog X.w) X.A (eval b X.env) (fun u s₂=>wpAny (model X.prog X.w) X.A (compareOp op v u) (EP X pins σ Q) X.xe s₂) X.xe s₁) X.xe s
def tB (t:TE) : TT:=fun σ H Q=>t σ H fun x H1=>∃ c,x = .bl c ∧ Q c H1
theorem jve {op:CmpOp} {t:TE} (h:PC X op a b t) (h1:behindInMarks op b = false:=by first | exact nobehind _ (by decide) (by decide) | rfl) : PT X (.Compare a [op] [b] pos) (tB t):=by
 intro pins s σ H Q I hw
 refine wpAny_isTrue_Compare1 (thn (h pins s σ H _ I hw) fun v s1 h1=>thn h1 fun u s2 h2=>thn h2 fun c s3 ⟨x,H1,I1,r1,q1⟩=>?_) h1
 obtain ⟨d,rfl,q⟩:=q1
 cases r1
 exact wpAny_truthy_bool ⟨H1,I1,q⟩
theorem xb {e:Expr} {t:TE} (h:PE X e t) (he : ∀ whole,isTrue e X.env whole = (do let v ← whole; standAt e.pos; holding [v] (truthy v)):=by intro _; rfl) : PT X e (tB t):=by
 intro pins s σ H Q I hw
 refine isTrue_plain (thn (h pins s σ H _ I hw) fun v s1 ⟨x,H1,I1,r1,q1⟩=>?_) (he _)
 obtain ⟨d,rfl,q⟩:=q1
 cases r1
 exact wpAny_truthy_bool ⟨H1,I1,q⟩
variable {tA tB':TT} {rest:List Expr}
def j8i (t u:TT) : TT:=fun σ H Q=>t σ H fun c H1=>if c = true then u σ H1 Q else Q false H1
def tOr (t u:TT) : TT:=fun σ H Q=>t σ H fun c H1=>if c = true then Q true H1 else u σ H1 Q
def j72 (t:TT) : TT:=fun σ H Q=>t σ H fun c H1=>Q (!c) H1
theorem jfr (ha:PT X a tA) : PW X (.BoolOp .And [a] pos) tA:=by
 intro wh pins s σ H Q I h
 refine isTrue_and (thn (ha pins s σ H Q I h) fun c s1 e=>?_)
 cases c with
 | true=>exact isTrue_and_nil e
 | false=>exact e
theorem je7 (ha:PT X a tA) : PW X (.BoolOp .Or [a] pos) tA:=by
 intro wh pins s σ H Q I h
 refine isTrue_or (thn (ha pins s σ H Q I h) fun c s1 e=>?_)
 cases c with
 | false=>exact isTrue_or_nil e
 | true=>exact e
theorem jiy (ha:PT X a tA) (hb:PW X (.BoolOp .And (b :: rest) pos) tB') : PW X (.BoolOp .And (a :: b :: rest) pos) (j8i tA tB'):=by
 intro wh pins s σ H Q I h
 refine isTrue_and (thn (ha pins s σ H _ I h) fun c s1 ⟨H1,I1,q1⟩=>?_)
 cases c with
 | true=>exact hb wh pins s1 σ H1 Q I1 q1
 | false=>exact ⟨H1,I1,q1⟩
theorem jko (ha:PT X a tA) (hb:PW X (.BoolOp .Or (b :: rest) pos) tB') : PW X (.BoolOp .Or (a :: b :: rest) pos) (tOr tA tB'):=by
 intro wh pins s σ H Q I h
 refine isTrue_or (thn (ha pins s σ H _ I h) fun c s1 ⟨H1,I1,q1⟩=>?_)
 cases c with
 | true=>exact ⟨H1,I1,q1⟩
 | false=>exact hb wh pins s1 σ H1 Q I1 q1
theorem yi (ha:PT X a tA) : PT X (.UnaryOp .Not a pos) (j72 tA):=by
 intro pins s σ H Q I h
 exact isTrue_not (ha pins s σ H (fun c H1=>Q (!c) H1) I h)
def j6t (ta tb:TE) : TE:=fun σ H Q=>ta σ H fun x H1=>∃ c,x = .bl c ∧ if c = true then tb σ H1 Q else Q (.bl false) H1
def j6g (ta:TE) : TE:=fun σ H Q=>ta σ H fun x H1=>∃ c,x = .bl c ∧ Q (.bl (!c)) H1
theorem jql {op} {t:TE} (h:PE X a t) : PE X (.BoolOp op [a] pos) t:=fun pins s σ H Q I hw=>BoolOp_one (h pins s σ H Q I hw)
theorem jpo (ha:PE X a ta) (hb:PE X (.BoolOp .And (b :: rest) pos) tb) : PE X (.BoolOp .And (a :: b :: rest) pos) (j6t ta tb):=by
 intro pins s σ H Q I h
 refine BoolOp_and (thn (ha pins s σ H _ I h) fun v s1 ⟨x,H1,I1,r1,q1⟩=>?_)
 obtain ⟨c,rfl,q1⟩:=q1
 cases r1
 refine wpAny_truthy_bool ?_
 cases c with
 | true=>exact hb pins s1 σ H1 Q I1 q1
 | false=>exact ⟨.bl false,H1,I1,rfl,q1⟩
theorem j4g (ha:PE X a ta) : PE X (.UnaryOp .Not a pos) (j6g ta):=by
 intro pins s σ H Q I h
 refine UnaryOp_ (thn (ha pins s σ H _ I h) fun v s1 ⟨x,H1,I1,r1,q1⟩=>?_)
 obtain ⟨c,rfl,q1⟩:=q1
 cases r1
 exact not_of (wpAny_truthy_bool ⟨.bl (!c),H1,I1,rfl,q1⟩)
def tIf (t:TT) (ta tb:TE) : TE:=fun σ H Q=>t σ H fun c H1=>if c = true then ta σ H1 Q else tb σ H1 Q
theorem jn7 {c:Expr} (hc:PT X c tA) (ha:PE X a ta) (hb:PE X b tb) : PE X (.IfExp c a b pos) (tIf tA ta tb):=by
 intro pins s σ H Q I h
 refine wpAny_IfExp (thn (hc pins s σ H _ I h) fun d s1 ⟨H1,I1,q1⟩=>?_)
 cases d with
 | true=>exact ha pins s1 σ H1 Q I1 q1
 | false=>exact hb pins s1 σ H1 Q I1 q1
end
end L2
namespace L2
open PySem PySem.Spec PyProof.Rows
def SqL (K:PySem.W.Frag) (H:Hp) (a:Addr) (xs:List V) : Prop:=
 Rd H a (.lst xs) ∨
  ∃ (o:Obj) (its:Array Value) (n:Nat),K.lookup a = some o ∧ o.cls = .type "list" ∧ o.dict = none ∧ o.data = .seq its n ∧ its.size ≤ sizeLine ∧ Vals xs its.toList
def SqT (K:PySem.W.Frag) (H:Hp) (a:Addr) (xs:List V) : Prop:=
 Rd H a (.tup xs) ∨
  ∃ (o:Obj) (its:Array Value) (n:Nat),K.lookup a = some o ∧ o.cls = .type "tuple" ∧ o.data = .seq its n ∧ its.size ≤ sizeLine ∧ Vals xs its.toList
def j76:Value → Option V
 | .none=>some .non
 | .bool b=>some (.bl b)
 | .int i _=>some (.int i)
 | .str x _=>some (.str x)
 | .bytes b _=>some (.byt b)
 | .float b _=>some (.flt b)
 | .ref a=>some (.ref a)
 | .type n=>some (.ty n)
 | _=>none
theorem RelV.abs {x:V} {u:Value} (r:RelV x u) : j76 u = some x:=by
 cases x with
 | non=>cases r; rfl
 | bl _=>cases r; rfl
 | int _=>obtain ⟨t,rfl⟩:=r; rfl
 | str _=>obtain ⟨t,rfl⟩:=r; rfl
 | byt _=>obtain ⟨t,rfl⟩:=r; rfl
 | flt _=>obtain ⟨t,rfl⟩:=r; rfl
 | ref _=>cases r; rfl
 | ty _=>cases r; rfl
theorem RelV.inj {x y:V} {u:Value} (r:RelV x u) (q:RelV y u) : x = y:=Option.some.inj (r.abs.symm.trans q.abs)
theorem Vals.inj : ∀ {xs ys:List V} {us:List Value},Vals xs us → Vals ys us → xs = ys
 | _,_,_,.nil,.nil=>rfl
 | _,_,_,.cons r t,.cons r' t'=>by rw [r.inj r',Vals.inj t t']
section
variable {X:Cx} {pins:List (Addr × Obj)} {σ : St} {H:Hp} {s:Shared} {a:Addr} {xs ys:List V}
theorem SqL.of {K:PySem.W.Frag} (h:H a = some (.lst xs)) : SqL K H a xs:=.inl (.inl h)
theorem SqT.of {K:PySem.W.Frag} (h:H a = some (.tup xs)) : SqT K H a xs:=.inl (.inl h)
theorem Inv.list (I:Inv X pins σ H s) (h:SqL X.K H a xs) : ∃ its:List Value,Vals xs its ∧ PlainL s.heap a its.toArray ∧ xs.length ≤ sizeLine:=by
 rcases h with h | ⟨o,its,n,hk,hc,hd,hs,hz,r⟩
 ·obtain ⟨z,its,n,r,e⟩:=h.ok I.hok
  exact ⟨its,r,⟨_,n,e,rfl,rfl,rfl⟩,z⟩
 ·refine ⟨its.toList,r,⟨o,n,I.kIn a o hk,hc,hd,by simpa using hs⟩,?_⟩
  have e:=r.length
  simp only [Array.length_toList] at e
  omega
theorem Inv.tuple (I:Inv X pins σ H s) (h:SqT X.K H a xs) : ∃ its:List Value,Vals xs its ∧ IsTup s.heap a its.toArray ∧ xs.length ≤ sizeLine:=by
 rcases h with h | ⟨o,its,n,hk,hc,hs,hz,r⟩
 ·obtain ⟨z,its,r,p⟩:=h.ok I.hok
  exact ⟨its,r,p,z⟩
 ·refine ⟨its.toList,r,⟨o,I.kIn a o hk,hc,n,by simpa using hs⟩,?_⟩
  have e:=r.length
  simp only [Array.length_toList] at e
  omega
theorem Inv.jvh (I:Inv X pins σ H s) (h:SqL X.K H a xs) (h':SqL X.K H a ys) : xs = ys:=by
 obtain ⟨its,r,⟨o,n,e,_,_,d⟩,_⟩:=I.list h
 obtain ⟨its',r',⟨o',n',e',_,_,d'⟩,_⟩:=I.list h'
 rw [e] at e'; cases e'
 rw [d] at d'
 injection d' with d1 _
 have:its = its':=by simpa using congrArg Array.toList d1
 subst this
 exact r.inj r'
theorem Inv.jpa (I:Inv X pins σ H s) (h:SqT X.K H a xs) (h':SqT X.K H a ys) : xs = ys:=by
 obtain ⟨its,r,⟨o,e,_,n,d⟩,_⟩:=I.tuple h
 obtain ⟨its',r',⟨o',e',_,n',d'⟩,_⟩:=I.tuple h'
 rw [e] at e'; cases e'
 rw [d] at d'
 injection d' with d1 _
 have:its = its':=by simpa using congrArg Array.toList d1
 subst this
 exact r.inj r'
end
abbrev Cx.jy7 (X:Cx) (E:Value → Shared → Prop) : Cx:={ X with xe:=E }
abbrev Cx.nox (X:Cx) : Cx:=X.jy7 fun _ _=>False
theorem Cx.Ok.jy7 {X:Cx} (ok:X.Ok) (E:Value → Shared → Prop) : (X.jy7 E).Ok:=
 ⟨ok.mod,ok.kind,ok.glob,ok.blt,ok.above,ok.inj,ok.has,ok.cab,ok.hd,ok.frames,ok.stk,ok.exf,ok.bs,ok.bsz,ok.j2s,ok.j3r,ok.jt1,ok.frf⟩
theorem Cx.Ok.jmz {X:Cx} {E:Value → Shared → Prop} (ok:(X.jy7 E).Ok) : X.Ok:=
 ⟨ok.mod,ok.kind,ok.glob,ok.blt,ok.above,ok.inj,ok.has,ok.cab,ok.hd,ok.frames,ok.stk,ok.exf,ok.bs,ok.bsz,ok.j2s,ok.j3r,ok.jt1,ok.frf⟩
section
variable {X:Cx} {pins:List (Addr × Obj)} {σ : St} {H:Hp} {s:Shared} {E:Value → Shared → Prop}
theorem Inv.jy7 (I:Inv X pins σ H s) (E:Value → Shared → Prop) : Inv (X.jy7 E) pins σ H s:=⟨I.ok.jy7 E,I.os,I.bare,I.base,I.loc,I.cell,I.free,I.jfe,I.pin,I.hok,I.len⟩
theorem Inv.jmz (I:Inv (X.jy7 E) pins σ H s) : Inv X pins σ H s:=⟨I.ok.jmz,I.os,I.bare,I.base,I.loc,I.cell,I.free,I.jfe,I.pin,I.hok,I.len⟩
theorem SP.jmz {D:Ends} {f:Flow} {s':Shared} (h:SP (X.jy7 E) pins D f s') : SP X pins D f s':=by
 cases f with
 | next=>obtain ⟨σ',H',I,q⟩:=h; exact ⟨σ',H',I.jmz,q⟩
 | brk=>obtain ⟨σ',H',I,q⟩:=h; exact ⟨σ',H',I.jmz,q⟩
 | cont=>obtain ⟨σ',H',I,q⟩:=h; exact ⟨σ',H',I.jmz,q⟩
 | ret u=>obtain ⟨v,σ',H',I,r,q⟩:=h; exact ⟨v,σ',H',I.jmz,r,q⟩
theorem PSs.nox {st:List Stmt} {t:TS} (h:PSs X.nox st t) : PSs X st t:=fun pins s σ H D I hw=>
 wpAny_mono (h pins s σ H D (I.jy7 _) hw) (fun _ _ q=>q.jmz) fun _ _ z=>False.elim z
end
section
variable {X:Cx} {st:Stmt} {rest:List Stmt} {t u:TS} {e:Expr} {te:TE} {pos:Pos}
def j6e:TS:=fun D σ H=>D.nx σ H
def j7k (t u:TS) : TS:=fun D σ H=>t { D with nx:=u D } σ H
theorem qc:PSs X [] j6e:=fun _ _ σ H _ I h=>wpAny_execs_nil ⟨σ,H,I,h⟩
theorem jb (h1:PS X st t) (h2:PSs X rest u) : PSs X (st :: rest) (j7k t u):=by
 intro pins s σ H D I h
 refine wpAny_execs_cons (thn (h1 pins s σ H { D with nx:=u D } I h) fun f s1 q=>?_)
 cases f with
 | next=>
  obtain ⟨σ',H',I',q⟩:=q
  exact h2 pins s1 σ' H' D I' q
 | ret v=>exact q
 | brk=>exact q
 | cont=>exact q
theorem jd (h1:PS X st t) : PSs X [st] t:=by
 intro pins s σ H D I h
 refine wpAny_execs_cons (thn (h1 pins s σ H D I h) fun f s1 q=>?_)
 cases f with
 | next=>exact wpAny_execs_nil q
 | ret v=>exact q
 | brk=>exact q
 | cont=>exact q
theorem Inv.quiet {pins:List (Addr × Obj)} {σ : St} {H:Hp} {s:Shared} (I:Inv X pins σ H s) : interactive X.env = false:=by simp [interactive,I.ok.kind]
def j6r (te:TE) : TS:=fun D σ H=>te σ H fun _ H1=>D.nx σ H1
theorem qe (he:PE X e te) (hs:swapsWith e none pos.line X.env = pure false:=by rfl) : PS X (.Expr e pos) (j6r te):=by
 intro pins s σ H D I h
 exact wpAny_Expr_any (thn (he pins s σ H _ I h) fun v s1 ⟨x,H1,I1,r1,q1⟩=>⟨σ,H1,I1,q1⟩) I.quiet hs
def j78 (te:TE) : TS:=fun D σ H=>te σ H D.rt
theorem j4 (he:PE X e te) : PS X (.Return (some e) pos) (j78 te):=by
 intro pins s σ H D I h
 exact wpAny_Return_some (thn (he pins s σ H _ I h) fun v s1 ⟨x,H1,I1,r1,q1⟩=>⟨x,σ,H1,I1,r1,q1⟩)
def j7e (c:TT) (t u:TS) : TS:=fun D σ H=>c σ H fun b H1=>if b = true then t D σ H1 else u D σ H1
theorem zo {c:Expr} {a b:List Stmt} {tc:TT} (hc:PT X c tc) (ha:PSs X a t) (hb:PSs X b u) : PS X (.If c a b pos) (j7e tc t u):=by
 intro pins s σ H D I h
 refine wpAny_If (thn (hc pins s σ H _ I h) fun d s1 ⟨H1,I1,q1⟩=>?_)
 cases d with
 | true=>exact ha pins s1 σ H1 D I1 q1
 | false=>exact hb pins s1 σ H1 D I1 q1
def j1a:TS:=fun _ _ _=>False
theorem jzs:PS X st j1a:=fun _ _ _ _ _ _ h=>h.elim
theorem qx {sts:List Stmt} : PSs X sts j1a:=fun _ _ _ _ _ _ h=>h.elim
end
abbrev TG:=V → St → Hp → (St → Hp → Prop) → Prop
abbrev TGs:=List V → St → Hp → (St → Hp → Prop) → Prop
def PG (X:Cx) (target:Expr) (t:TG) : Prop:=
 ∀ (pins:List (Addr × Obj)) (s:Shared) (σ : St) (H:Hp) (v:V) (u:Value) (Q:St → Hp → Prop),Inv X pins σ H s → RelV v u → t v σ H Q →
  wpAny (model X.prog X.w) X.A (assign target X.env u) (fun _ s'=>∃ σ' H',Inv X pins σ' H' s' ∧ Q σ' H') X.xe s
def PGs (X:Cx) (ts:List Expr) (t:TGs) : Prop:=
 ∀ (pins:List (Addr × Obj)) (s:Shared) (σ : St) (H:Hp) (vs:List V) (us:List Value) (Q:St → Hp → Prop),Inv X pins σ H s → Vals vs us → t vs σ H Q →
  wpAny (model X.prog X.w) X.A (assignInOrder ((assignEach ts X.env).map (·.2)) us) (fun _ s'=>∃ σ' H',Inv X pins σ' H' s' ∧ Q σ' H') X.xe s
abbrev j4c:=V → V → V → Hp → (Hp → Prop) → Prop
def j6l (X:Cx) (t:j4c) : Prop:=
 ∀ (pins:List (Addr × Obj)) (s:Shared) (σ : St) (H:Hp) (o i v:V) (ov iv u:Value) (Q:Hp → Prop),Inv X pins σ H s → RelV o ov → RelV i iv → RelV v u → t o i v H Q →
  wpAny (model X.prog X.w) X.A (setItem ov iv u) (fun _ s'=>∃ H',Inv X pins σ H' s' ∧ Q H') X.xe s
abbrev TIp:=V → V → Hp → VK → Prop
def PIp (X:Cx) (op:Operator) (t:TIp) : Prop:=
 ∀ (pins:List (Addr × Obj)) (s:Shared) (σ : St) (H:Hp) (x y:V) (v u:Value) (Q:VK),Inv X pins σ H s → RelV x v → RelV y u → t x y H Q →
  wpAny (model X.prog X.w) X.A (inplaceOp op v u) (EP X pins σ Q) X.xe s
section
variable {X:Cx} {pos:Pos}
def jom (i:Nat) : TG:=fun v σ H Q=>Q (σ.set i (some v)) H
theorem ju {i:Nat} {x:Str} (hN:X.N.Nodup) (hi:X.N[i]? = some x) (hx:Loc X.env.scope x) (hf:X.fn x = true ∨ X.env.scope.names.lookup x = some .local:=by first | exact .inl rfl | exact .inr rfl | assumption) : PG X (.Name x pos) (jom i):=by
 intro pins s σ H v u Q I r h
 exact wpAny_assign_Name (jn0 I hN hi hx r (fun s' I'=>⟨_,H,I',h⟩) hf)
def j8f:TGs:=fun vs σ H Q=>vs = [] ∧ Q σ H
def j5v (t:TG) (u:TGs) : TGs:=fun vs σ H Q=>∃ v r,vs = v :: r ∧ t v σ H fun σ' H'=>u r σ' H' Q
theorem jj6:PGs X [] j8f:=by
 intro pins s σ H vs us Q I r h
 obtain ⟨e,h⟩:=h
 subst e
 cases r
 exact assignInOrder_nil ⟨σ,H,I,h⟩
theorem j7 {e:Expr} {es:List Expr} {t:TG} {u:TGs} (h1:PG X e t) (h2:PGs X es u)
  (hs:(assignEach (e :: es) X.env).map (·.2) = assign e X.env :: (assignEach es X.env).map (·.2):=by rfl) : PGs X (e :: es) (j5v t u):=by
 intro pins s σ H vs us Q I r h
 obtain ⟨v,vr,e1,h⟩:=h
 subst e1
 cases r with
 | cons r rr=>
  rw [hs]
  refine assignInOrder_cons (thn (h1 pins s σ H _ _ _ I r h) fun _ s1 ⟨σ1,H1,I1,q1⟩=>?_)
  exact h2 pins s1 σ1 H1 _ _ Q I1 rr q1
def j7r (K:PySem.W.Frag) (n:Nat) (t:TGs) : TG:=fun v σ H Q=>∃ a xs,v = .ref a ∧ SqT K H a xs ∧ xs.length = n ∧ t xs σ H Q
theorem jpc {es:List Expr} {k:Nat} {t:TGs} {n:Nat} (hc:X.calm = true) (h:PGs X es t)
  (hn:(assignEach es X.env).length = n:=by rfl) (hst:(assignEach es X.env).findIdx? (·.1) = none:=by rfl) : PG X (.Tuple es k pos) (j7r X.K n t):=by
 intro pins s σ H v u Q I r hw
 obtain ⟨a,xs,e1,hq,hl,hw⟩:=hw
 subst e1
 cases r
 obtain ⟨its,rv,ht,hz⟩:=I.tuple hq
 refine assign_Tuple_tuple (I.ok.hd hc) ht (by simp [hn,← hl,rv.length]) hst fun h' hx=>?_
 have I1:Inv X pins σ H { s with heap:=h' }:=I.kept (t':=s.toks) fun b o e=>hx b o (Nat.ne_of_lt (Heap.lt_size e)) e
 exact h pins _ σ H xs _ Q I1 (by simpa using rv) hw
def j7q (to ti:TE) (t:j4c) : TG:=fun v σ H Q=>to σ H fun o H1=>ti σ H1 fun i H2=>t o i v H2 fun H3=>Q σ H3
theorem j1e {o i:Expr} {to ti:TE} {t:j4c} (ho:PE X o to) (hi:PE X i ti) (hs:j6l X t)
  (ha : ∀ v,assign (.Subscript o i pos) X.env v = (do
   let ov ← holding [v] (eval o X.env)
   let iv ← holding [v,ov] (eval i X.env)
   standAt pos
   holding [v,ov,iv] (setItem ov iv v)
   release [v,ov,iv] []):=by intro _; rfl) : PG X (.Subscript o i pos) (j7q to ti t):=by
 intro pins s σ H v u Q I r h
 rw [ha]
 refine wpAny_bind (wpAny_holding (thn (ho pins s σ H _ I h) fun ov s1 ⟨x,H1,I1,r1,q1⟩=>?_))
 refine wpAny_bind (wpAny_holding (thn (hi pins s1 σ H1 _ I1 q1) fun iv s2 ⟨y,H2,I2,r2,q2⟩=>?_))
 refine wpAny_bind (wpAny_standAt (wpAny_bind (wpAny_holding (thn (hs pins s2 σ H2 x y v ov iv u _ I2 r1 r2 r q2) fun _ s3 ⟨H3,I3,q3⟩=>?_))))
 exact wpAny_release ⟨σ,H3,I3,q3⟩
def j53 (te:TE) (g:TG) : TS:=fun D σ H=>te σ H fun x H1=>g x σ H1 D.nx
theorem jm8 {tg e:Expr} {te:TE} {g:TG} (he:PE X e te) (hg:PG X tg g) (hs:swapsWithSole [tg] e pos.line X.env = pure false:=by rfl) (hw:swappedStores [tg] e X.env = pure none:=by rfl)
  (h1:(assignEach [tg] X.env).map (·.2) = [assign tg X.env]:=by rfl) : PS X (.Assign [tg] e pos) (j53 te g):=by
 intro pins s σ H D I h
 refine wpAny_Assign_stores (thn (he pins s σ H _ I h) fun v s1 ⟨x,H1,I1,r1,q1⟩=>?_) hs hw
 rw [h1]
 exact thn (hg pins s1 σ H1 x v _ I1 r1 q1) fun _ s2 q=>q
theorem j8 {i:Nat} {x:Str} {e:Expr} {te:TE} {pos':Pos} (hN:X.N.Nodup) (hi:X.N[i]? = some x) (hx:Loc X.env.scope x) (he:PE X e te) (hs:swapsWith e (some (.Name x pos')) pos.line X.env = pure false:=by rfl) (hf:X.fn x = true ∨ X.env.scope.names.lookup x = some .local:=by first | exact .inl rfl | exact .inr rfl | assumption) :
  PS X (.Assign [.Name x pos'] e pos) (j53 te (jom i)):=by
 intro pins s σ H D I h
 refine wpAny_Assign_Name (thn (he pins s σ H _ I h) fun v s1 ⟨y,H1,I1,r1,q1⟩=>?_) hs
 exact jn0 I1 hN hi hx r1 (fun s2 I2=>⟨_,H1,I2,q1⟩) hf
def j64 (to ti te:TE) (tget:V → V → Hp → VK → Prop) (tip:TIp) (tset:j4c) : TS:=fun D σ H=>to σ H fun o H1=>ti σ H1 fun i H2=>tget o i H2 fun x H3=>te σ H3 fun y H4=>tip x y H4 fun z H5=>tset o i z H5 fun H6=>D.nx σ H6
def j7f (X:Cx) (t:V → V → Hp → VK → Prop) : Prop:=
 ∀ (pins:List (Addr × Obj)) (s:Shared) (σ : St) (H:Hp) (o i:V) (ov iv:Value) (Q:VK),Inv X pins σ H s → RelV o ov → RelV i iv → t o i H Q →
  wpAny (model X.prog X.w) X.A (getItem ov iv) (EP X pins σ Q) X.xe s
theorem juh {o i e:Expr} {to ti te:TE} {tget:V → V → Hp → VK → Prop} {tip:TIp} {tset:j4c} {op:Operator} {tpos:Pos} (ho:PE X o to) (hi:PE X i ti) (hg:j7f X tget) (he:PE X e te) (hp:PIp X op tip) (hs:j6l X tset)
  (ha : ∀ ov iv new,augStore i ov iv new = (do holding [new,ov,iv] (setItem ov iv new); release [new,ov,iv] []; pure .next):=by intros; rfl) : PS X (.AugAssign (.Subscript o i tpos) op e pos) (j64 to ti te tget tip tset):=by
 intro pins s σ H D I h
 refine wpAny_AugAssign_SubscriptAny (thn (ho pins s σ H _ I h) fun ov s1 ⟨x1,H1,I1,r1,q1⟩=>?_) ha
 refine thn (hi pins s1 σ H1 _ I1 q1) fun iv s2 ⟨x2,H2,I2,r2,q2⟩=>?_
 refine thn (hg pins s2 σ H2 x1 x2 ov iv _ I2 r1 r2 q2) fun old s3 ⟨x3,H3,I3,r3,q3⟩=>?_
 refine thn (he pins s3 σ H3 _ I3 q3) fun v s4 ⟨x4,H4,I4,r4,q4⟩=>?_
 refine thn (hp pins s4 σ H4 x3 x4 old v _ I4 r3 r4 q4) fun new s5 ⟨x5,H5,I5,r5,q5⟩=>?_
 exact thn (hs pins s5 σ H5 x1 x2 x5 ov iv new _ I5 r1 r2 r5 q5) fun _ s6 ⟨H6,I6,q6⟩=>⟨σ,H6,I6,q6⟩
def ipI (f:Int → Int → Int) : TIp:=fun x y H Q=>∃ i j,x = .int i ∧ y = .int j ∧ Q (.int (f i j)) H
theorem j06:PIp X .Add (ipI fun i j=>i + j):=by
 intro pins s σ H x y v u Q I r1 r2 h
 obtain ⟨i,j,e1,e2,q⟩:=h
 subst e1; subst e2
 obtain ⟨t,rfl⟩:=r1
 obtain ⟨t',rfl⟩:=r2
 exact iadd_int ⟨.int _,H,I.tok _,⟨_,rfl⟩,q⟩
theorem j4d:PIp X .Sub (ipI fun i j=>i - j):=by
 intro pins s σ H x y v u Q I r1 r2 h
 obtain ⟨i,j,e1,e2,q⟩:=h
 subst e1; subst e2
 obtain ⟨t,rfl⟩:=r1
 obtain ⟨t',rfl⟩:=r2
 exact isub_int ⟨.int _,H,I.tok _,⟨_,rfl⟩,q⟩
end
section
variable {X:Cx} {pos:Pos}
def j1k (c:TT) (tb:TS) : TS:=fun D σ H=>∃ W:Nat → St → Hp → Prop,(∃ m,W m σ H) ∧ ∀ m σ H,W m σ H →
 c σ H fun b H1=>if b = true then ∃ N:St → Hp → Prop,(∀ σ' H',N σ' H' → ∃ m',m' < m ∧ W m' σ' H') ∧ tb { D with nx:=N,ct:=N,bk:=D.nx } σ H1 else D.nx σ H1
theorem j0k {c:Expr} {body:List Stmt} {tc:TT} {tb:TS} (hp:PassesOwn (model X.prog X.w) X.A X.env X.xe) (hc:PT X c tc) (hb:PSs X body tb) : PS X (.While c body [] pos) (j1k tc tb):=by
 intro pins s σ H D I h
 obtain ⟨W,⟨m0,w0⟩,turn⟩:=h
 refine wpAny_While (codeAny_whileLoop (fun n s'=>∃ σ' H',Inv X pins σ' H' s' ∧ W n σ' H') ?_ m0 ⟨σ,H,I,w0⟩)
 rintro n s1 ⟨σ1,H1,I1,w1⟩
 refine wpAny_passesOwn hp (thn (hc pins s1 σ1 H1 _ I1 (turn n σ1 H1 w1)) fun b s2 ⟨H2,I2,q2⟩=>?_)
 cases b with
 | true=>
  obtain ⟨N,hN,q2⟩:=q2
  rw [if_pos rfl]
  refine wpAny_passesOwn hp (thn (hb pins s2 σ1 H2 _ I2 q2) fun f s3 q3=>?_)
  cases f with
  | next=>
   obtain ⟨σ3,H3,I3,n3⟩:=q3
   obtain ⟨m',hm,w3⟩:=hN σ3 H3 n3
   exact ⟨m',hm,σ3,H3,I3,w3⟩
  | cont=>
   obtain ⟨σ3,H3,I3,n3⟩:=q3
   obtain ⟨m',hm,w3⟩:=hN σ3 H3 n3
   exact ⟨m',hm,σ3,H3,I3,w3⟩
  | brk=>exact q3
  | ret v=>exact q3
 | false=>
  rw [if_neg Bool.false_ne_true]
  exact wpAny_execs_nil ⟨σ1,H2,I2,q2⟩
end
structure It where
 go:Nat → Hp → Prop
 yld:Nat → Hp → V → Hp → Prop
 stop:Nat → Hp → Prop
def jt0 (X:Cx) (pins:List (Addr × Obj)) (H:Hp) (b:Addr) : Prop:=
 H b = none ∧ b ≠ X.env.locals ∧ b ∉ X.fs ∧ (b ∈ X.ex ∨ X.s₀.heap.objs.size ≤ b) ∧ (∀ x c,X.env.cells.lookup x = some c → c ≠ b) ∧ ∀ p ∈ X.pn ++ pins,p.1 ≠ b
theorem Inv.j3o {X:Cx} {pins:List (Addr × Obj)} {σ : St} {H H':Hp} {s:Shared} {b:Addr} (I:Inv X pins σ H s) (hb:s.heap.objs.size ≤ b) (hn:H' b = none) : jt0 X pins H' b:=by
 refine ⟨hn,Nat.ne_of_gt (Nat.lt_of_lt_of_le I.lt hb),I.j7h hb,.inr (Nat.le_trans I.sz hb),fun x c e z=>?_,fun p hp z=>?_⟩
 ·obtain ⟨v,q⟩:=I.cell x c e
  exact absurd (Nat.lt_of_lt_of_le q.lt (by rw [z]; exact hb)) (Nat.lt_irrefl _)
 ·exact absurd (Nat.lt_of_lt_of_le (Heap.lt_size (I.pin p hp).1) (by rw [z]; exact hb)) (Nat.lt_irrefl _)
structure Turn (P:Program) (w:World) (K:PySem.W.Frag) (tg:Expr) (J:It) (fp:List Addr) (it:Addr) (tn:Nat → Heap → Prop) : Prop where
  mem:it ∈ fp
  obj : ∀ i h,tn i h → ∀ b ∈ fp,∃ o,h.get? b = some o ∧ ∀ v,o.data ≠ .cell v
  keep : ∀ i h h',tn i h → (∀ b ∈ fp,∀ o,h.get? b = some o → h'.get? b = some o) → tn i h'
  item : ∀ (X:Cx),X.prog = P → X.w = w → X.K = K → X.calm = true → ∀ (i:Nat) (pins:List (Addr × Obj)) (s:Shared) (σ : St) (H:Hp) (E:Value → Shared → Prop),Inv X pins σ H s → (∀ b ∈ fp,jt0 X pins H b) → tn i s.heap → J.go i H →
    wpAny (model P w) X.A (pyNext (.ref it)) (fun r s1=>∃ u,r = some u ∧
      wpAny (model P w) X.A (letOwnedTupleGo tg (.ref it) u) (fun _ s2=>∃ x H',Inv X pins σ H' s2 ∧ RelV x u ∧ J.yld i H x H' ∧ tn (i + 1) s2.heap ∧ ∀ b ∈ fp,H' b = none) E s1) E s
  done : ∀ (X:Cx),X.prog = P → X.w = w → X.K = K → X.calm = true → ∀ (i:Nat) (pins:List (Addr × Obj)) (s:Shared) (σ : St) (H:Hp) (E:Value → Shared → Prop),Inv X pins σ H s → (∀ b ∈ fp,jt0 X pins H b) → tn i s.heap → J.stop i H →
    wpAny (model P w) X.A (pyNext (.ref it)) (fun r s1=>r = none ∧ Inv X pins σ H s1) E s
  self : ∀ (A:Around) (i:Nat) (s:Shared) (Q:Value → Shared → Prop) (E:Value → Shared → Prop),tn i s.heap → Q (.ref it) s → wpAny (model P w) A (pyIter (.ref it)) Q E s
abbrev TI:=St → Hp → (It → Hp → Prop) → Prop
def PIE (X:Cx) (pins:List (Addr × Obj)) (σ : St) (tg:Expr) (R:It → Hp → Prop) (itv:Value) (s2:Shared) : Prop:=
 ∃ (it:Addr) (fp:List Addr) (tn:Nat → Heap → Prop) (J:It) (H':Hp),itv = .ref it ∧ Inv X pins σ H' s2 ∧ Turn X.prog X.w X.K tg J fp it tn ∧ tn 0 s2.heap ∧ (∀ b ∈ fp,jt0 X pins H' b) ∧ R J H'
def PI (X:Cx) (tg iter:Expr) (wi:TI) : Prop:=
 ∀ (pins:List (Addr × Obj)) (s:Shared) (σ : St) (H:Hp) (R:It → Hp → Prop),Inv X pins σ H s → wi σ H R →
  wpAny (model X.prog X.w) X.A (eval iter X.env) (fun v s1=>wpAny (model X.prog X.w) X.A (pyIter v) (PIE X pins σ tg R) X.xe s1) X.xe s
theorem jwf {M:Model} {A:Around} {E:Value → Shared → Prop} {s:Shared} {tg:Expr} {it:Addr} {u:Value} {o:Obj} {n:String} {vs:Array Value} {Q:Unit → Shared → Prop} (ho:s.heap.get? it = some o) (hc:o.cls = .type n) (hd:o.data = .fields vs)
    (hn : ["enumerate","zip","dict_itemiterator","dict_reverseitemiterator","odict_iterator","itertools.zip_longest","itertools.pairwise"].contains n = false) (hQ:Q () s) : wpAny M A (letOwnedTupleGo tg (.ref it) u) Q E s:=by
  unfold letOwnedTupleGo
  cases tg <;> first
    | exact wpAny_pure hQ
    | (cases u <;> first
        | exact wpAny_pure hQ
        | (refine wpAny_bind (wpAny_load ho ?_)
           rw [hc,hd]
           show wpAny M A (if (["enumerate","zip","dict_itemiterator","dict_reverseitemiterator","odict_iterator","itertools.zip_longest","itertools.pairwise"].contains n && vs[0]? == some (rawInt _)) = true then _ else _) Q E s
           rw [if_neg (by intro h; rw [hn,Bool.false_and] at h; cases h)]
           exact wpAny_pure hQ))
def Itl (K:PySem.W.Frag) (a:Addr) : It:=
 ⟨fun i H=>∃ xs x,SqL K H a xs ∧ xs[i]? = some x,fun i H x H'=>H' = H ∧ ∀ xs,SqL K H a xs → xs[i]? = some x,fun i H=>∃ xs,SqL K H a xs ∧ xs.length ≤ i⟩
def Itt (K:PySem.W.Frag) (a:Addr) : It:=
 ⟨fun i H=>∃ xs x,SqT K H a xs ∧ xs[i]? = some x,fun i H x H'=>H' = H ∧ ∀ xs,SqT K H a xs → xs[i]? = some x,fun i H=>∃ xs,SqT K H a xs ∧ xs.length ≤ i⟩
def Itr (lo:Int) (n:Nat) : It:=⟨fun i _=>i < n,fun i H x H'=>H' = H ∧ x = .int (lo + i),fun i _=>n ≤ i⟩
theorem jyj {P:Program} {w:World} {K:PySem.W.Frag} {tg:Expr} (a it:Addr) : Turn P w K tg (Itl K a) [it] it (fun i h=>h.IsListIter it a i) where
  mem:=by simp
  obj:=fun i h st b hb=>by
    have e:b = it:=by simpa using hb
    subst e
    obtain ⟨o,e,c,d⟩:=st
    exact ⟨o,e,fun v z=>by rw [d] at z; cases z⟩
  keep:=fun i h h' st k=>st.at fun o e=>k it (by simp) o e
  item:=by
    intro X hP hw hK hc i pins s σ H E I hf st hg
    subst hP hw hK
    obtain ⟨xs,x,hq,hx⟩:=hg
    obtain ⟨its,rv,p,hz⟩:=I.list hq
    obtain ⟨u,hu,ru⟩:=rv.get hx
    obtain ⟨f0,f1,f2,f3,f4,f5⟩:=hf it (by simp)
    refine wpAny_pyNext_list_item st p.isList (x:=u) (by simpa using hu) fun h' st' sb=>?_
    have I1:Inv X pins σ H { s with heap:=h' }:=I.turned (t':=s.toks) (fun b o hb e=>(sb.2 b hb).trans e) f0 f1 f3 f4 f5
    obtain ⟨o,e,c,d⟩:=id st'
    exact ⟨u,rfl,jwf (s:={ s with heap:=h' }) e c d (by decide) ⟨x,H,I1,ru,⟨rfl,fun ys hy=>by rw [I.jvh hy hq]; exact hx⟩,st',fun b hb=>(hf b hb).1⟩⟩
  done:=by
    intro X hP hw hK hc i pins s σ H E I hf st hg
    subst hP hw hK
    obtain ⟨xs,hq,hx⟩:=hg
    obtain ⟨its,rv,p,hz⟩:=I.list hq
    obtain ⟨f0,f1,f2,f3,f4,f5⟩:=hf it (by simp)
    have hl:=rv.length
    exact wpAny_pyNext_list_end (I.ok.hd hc) st p.isList (by simp; omega) fun h' eb=>⟨rfl,I.turned (t':=s.toks) (fun b o hb e=>eb b o hb e) f0 f1 f3 f4 f5⟩
  self:=fun _ _ _ _ _ st h=>wpAny_pyIter_listiter st h
theorem jwg {P:Program} {w:World} {K:PySem.W.Frag} {tg:Expr} (a it:Addr) : Turn P w K tg (Itt K a) [it] it (fun i h=>h.IsTupleIter it a i) where
  mem:=by simp
  obj:=fun i h st b hb=>by
    have e:b = it:=by simpa using hb
    subst e
    obtain ⟨o,e,c,d⟩:=st
    exact ⟨o,e,fun v z=>by rw [d] at z; cases z⟩
  keep:=fun i h h' st k=>st.at fun o e=>k it (by simp) o e
  item:=by
    intro X hP hw hK hc i pins s σ H E I hf st hg
    subst hP hw hK
    obtain ⟨xs,x,hq,hx⟩:=hg
    obtain ⟨its,rv,p,hz⟩:=I.tuple hq
    obtain ⟨u,hu,ru⟩:=rv.get hx
    obtain ⟨f0,f1,f2,f3,f4,f5⟩:=hf it (by simp)
    refine wpAny_pyNext_tuple_item st (show s.heap.IsTuple a its.toArray from p) (x:=u) (by simpa using hu) fun h' st' sb=>?_
    have I1:Inv X pins σ H { s with heap:=h' }:=I.turned (t':=s.toks) (fun b o hb e=>(sb.2 b hb).trans e) f0 f1 f3 f4 f5
    obtain ⟨o,e,c,d⟩:=id st'
    exact ⟨u,rfl,jwf (s:={ s with heap:=h' }) e c d (by decide) ⟨x,H,I1,ru,⟨rfl,fun ys hy=>by rw [I.jpa hy hq]; exact hx⟩,st',fun b hb=>(hf b hb).1⟩⟩
  done:=by
    intro X hP hw hK hc i pins s σ H E I hf st hg
    subst hP hw hK
    obtain ⟨xs,hq,hx⟩:=hg
    obtain ⟨its,rv,p,hz⟩:=I.tuple hq
    obtain ⟨f0,f1,f2,f3,f4,f5⟩:=hf it (by simp)
    have hl:=rv.length
    exact wpAny_pyNext_tuple_end (I.ok.hd hc) st (show s.heap.IsTuple a its.toArray from p) (by simp; omega) fun h' eb=>⟨rfl,I.turned (t':=s.toks) (fun b o hb e=>eb b o hb e) f0 f1 f3 f4 f5⟩
  self:=fun _ _ _ _ _ st h=>wpAny_pyIter_tupleiter st h
theorem jv0 {P:Program} {w:World} {K:PySem.W.Frag} {tg:Expr} (it:Addr) (lo:Int) (n:Nat) : Turn P w K tg (Itr lo n) [it] it (fun i h=>IsRangeIter h it (lo + (i:Nat) * 1) ((n:Int) - (i:Nat)) 1) where
  mem:=by simp
  obj := fun i h st b hb=>by
    have e:b = it:=by simpa using hb
    subst e
    exact ⟨_,st,fun v z=>by
      have z':Data.fields _ = Data.cell v:=z
      cases z'⟩
  keep:=fun i h h' st k=>k it (by simp) _ st
  item:=by
    intro X hP hw hK hc i pins s σ H E I hf st hg
    subst hP hw hK
    obtain ⟨f0,f1,f2,f3,f4,f5⟩:=hf it (by simp)
    have W:=Walks.range (prog:=X.prog) (w:=X.w) (I.ok.hd hc) it lo 1 n
    refine W.item i s _ _ hg st fun v h' tk hv st' kk=>?_
    obtain ⟨t,rfl⟩:=hv
    have I1:Inv X pins σ H { s with heap:=h',toks:=tk }:=I.turned (fun b o hb e=>kk b o (by simpa using hb) e) f0 f1 f3 f4 f5
    refine ⟨_,rfl,jwf (s:={ s with heap:=h',toks:=tk }) (n := "range_iterator") st' rfl rfl (by decide) ⟨.int (lo + i),H,I1,⟨t,?_⟩,⟨rfl,rfl⟩,st',fun b hb=>(hf b hb).1⟩⟩
    rw [Int.mul_one]
  done:=by
    intro X hP hw hK hc i pins s σ H E I hf st hg
    subst hP hw hK
    obtain ⟨f0,f1,f2,f3,f4,f5⟩:=hf it (by simp)
    exact wpAny_pyNext_range_end (I.ok.hd hc) st (by have:n ≤ i:=hg; omega) fun h' eb=>⟨rfl,I.turned (t':=s.toks) (fun b o hb e=>eb b o hb e) f0 f1 f3 f4 f5⟩
  self:=fun _ _ _ _ _ st h=>wpAny_pyIter_rangeiter st h
end L2
namespace L2
open PySem PySem.Spec PyProof.Rows
section
variable {X:Cx} {tg:Expr}
def j3y (K:PySem.W.Frag) (tl:TE) : TI:=fun σ H R=>tl σ H fun x H1=>∃ a,x = .ref a ∧ (∃ xs,SqL K H1 a xs) ∧ R (Itl K a) H1
def j7i (K:PySem.W.Frag) (tl:TE) : TI:=fun σ H R=>tl σ H fun x H1=>∃ a,x = .ref a ∧ (∃ xs,SqT K H1 a xs) ∧ R (Itt K a) H1
theorem jbh {l:Expr} {tl:TE} (hl:PE X l tl) : PI X tg l (j3y X.K tl):=by
 intro pins s σ H R I h
 refine thn (hl pins s σ H _ I h) fun v s1 ⟨x,H1,I1,r1,q1⟩=>?_
 obtain ⟨a,e,⟨xs,hq⟩,q⟩:=q1
 subst e
 cases r1
 obtain ⟨its,rv,p,hz⟩:=I1.list hq
 refine wpAny_pyIter_list p.isList ?_
 refine ⟨s1.heap.objs.size,[s1.heap.objs.size],_,_,H1,rfl,I1.kept (t':=s1.toks) fun b o e=>Heap.get?_push_of_some _ e,jyj a _,⟨_,Heap.get?_push_size _ rfl,rfl,rfl⟩,fun b hb=>?_,q⟩
 have e:b = s1.heap.objs.size:=by simpa using hb
 subst e
 exact I1.j3o (Nat.le_refl _) (I1.hok.fresh (Nat.le_refl _))
theorem j4l {l:Expr} {tl:TE} (hl:PE X l tl) : PI X tg l (j7i X.K tl):=by
 intro pins s σ H R I h
 refine thn (hl pins s σ H _ I h) fun v s1 ⟨x,H1,I1,r1,q1⟩=>?_
 obtain ⟨a,e,⟨xs,hq⟩,q⟩:=q1
 subst e
 cases r1
 obtain ⟨its,rv,p,hz⟩:=I1.tuple hq
 refine wpAny_pyIter_tuple (show s1.heap.IsTuple a its.toArray from p) ?_
 refine ⟨s1.heap.objs.size,[s1.heap.objs.size],_,_,H1,rfl,I1.kept (t':=s1.toks) fun b o e=>Heap.get?_push_of_some _ e,jwg a _,⟨_,Heap.get?_push_size _ rfl,rfl,rfl⟩,fun b hb=>?_,q⟩
 have e:b = s1.heap.objs.size:=by simpa using hb
 subst e
 exact I1.j3o (Nat.le_refl _) (I1.hok.fresh (Nat.le_refl _))
theorem jzz {pins:List (Addr × Obj)} {σ : St} {H:Hp} {s:Shared} {R:It → Hp → Prop} {E:Value → Shared → Prop} {lo hi:Int} {t u v:Tok} {tk:Nat} (I:Inv X pins σ H s) (h1 : -(2 ^ 62) ≤ lo) (h2:lo < 2 ^ 62) (h3 : -(2 ^ 62) ≤ hi) (h4:hi < 2 ^ 62)
  (q:R (Itr lo (hi - lo).toNat) H) : wpAny (model X.prog X.w) X.A (pyIter (.ref s.heap.objs.size)) (PIE X pins σ tg R) E { s with heap:=s.heap.push { cls:=.type "range",data:=.fields #[.int lo t,.int hi u,.int 1 v] },toks:=tk }:=by
 refine wpAny_pyIter_range (IsRange.new ..) (small_one h1 h2 h3 h4) ?_
 have I1:Inv X pins σ H { s with heap:=s.heap.push { cls:=.type "range",data:=.fields #[.int lo t,.int hi u,.int 1 v] },toks:=tk }:=I.kept fun b o e=>Heap.get?_push_of_some _ e
 refine ⟨(s.heap.push { cls:=.type "range",data:=.fields #[.int lo t,.int hi u,.int 1 v] }).objs.size,[(s.heap.push { cls:=.type "range",data:=.fields #[.int lo t,.int hi u,.int 1 v] }).objs.size],_,_,H,rfl,
  I1.kept (t':=tk) fun b o e=>Heap.get?_push_of_some _ e,jv0 _ lo (hi - lo).toNat,?_,fun b hb=>?_,q⟩
 ·have e1:lo + ((0:Nat) : Int) * 1 = lo:=by simp
  have e2:(((hi - lo).toNat:Nat) : Int) - ((0:Nat) : Int) = Builtin.Range.rangeSize lo hi 1:=by rw [rangeSize_one]; split <;> omega
  show IsRangeIter _ _ (lo + ((0:Nat) : Int) * 1) ((((hi - lo).toNat:Nat) : Int) - ((0:Nat) : Int)) 1
  rw [e1,e2]
  exact Heap.get?_push_size _ rfl
 ·have e:b = (s.heap.push { cls:=.type "range",data:=.fields #[.int lo t,.int hi u,.int 1 v] }).objs.size:=by simpa using hb
  subst e
  exact I1.j3o (Nat.le_refl _) (I1.hok.fresh (Nat.le_refl _))
def j51 (ta:TA) : TI:=fun σ H R=>ta σ H fun vs H1=>∃ j:Int,vs = [.int j] ∧ -(2 ^ 62) ≤ j ∧ j < 2 ^ 62 ∧ R (Itr 0 j.toNat) H1
theorem jex {a:Expr} {ta:TA} {p pos:Pos} (hg:Gl X "range") (hm:X.mg "range" = none) (ha:PA X [a] ta) (hs:starEach [a] X.env = [(false,eval a X.env)]:=by rfl) : PI X tg (.Call (.Name "range" p) [a] [] pos) (j51 ta):=by
 intro pins s σ H R I h
 refine Call_ (ju7 I hg hm boot_range (PyProof.Rows.callWith_type1 (thn (ha pos pins s σ H _ I h) fun us s1 ⟨vs,H1,I1,r1,q1⟩=>?_) hs rfl))
 obtain ⟨j,e,q1,q2,q⟩:=q1
 subst e
 cases r1 with
 | cons r rr=>
  cases rr
  obtain ⟨t,rfl⟩:=r
  exact call_range_1 (jzz I1 (by omega) (by omega) q1 q2 (by simpa using q))
def j8d (wi:TI) (g:TG) (tb:TS) : TS:=fun D σ H=>wi σ H fun J H1=>∃ W:Nat → Nat → St → Hp → Prop,(∃ m,W 0 m σ H1) ∧ ∀ i m σ H,W i m σ H →
 (J.stop i H ∧ D.nx σ H) ∨ (J.go i H ∧ ∃ N:St → Hp → Prop,(∀ σ' H',N σ' H' → ∃ m',m' < m ∧ W (i + 1) m' σ' H') ∧ ∀ x H',J.yld i H x H' → g x σ H' fun σ2 H2=>tb { D with nx:=N,ct:=N,bk:=D.nx } σ2 H2)
def jlg (fp:List Addr) (h:Heap) : List (Addr × Obj):=fp.filterMap fun b=>(h.get? b).map fun o=>(b,o)
theorem jh3 {fp:List Addr} {h:Heap} {b:Addr} {o:Obj} (hb:b ∈ fp) (e:h.get? b = some o) : (b,o) ∈ jlg fp h:=List.mem_filterMap.mpr ⟨b,hb,by rw [e]; rfl⟩
theorem jtq {fp:List Addr} {h:Heap} {p:Addr × Obj} (hp:p ∈ jlg fp h) : p.1 ∈ fp ∧ h.get? p.1 = some p.2:=by
 obtain ⟨b,hb,e⟩:=List.mem_filterMap.mp hp
 cases q:h.get? b with
 | none=>rw [q] at e; cases e
 | some o=>
  rw [q] at e
  have e':(b,o) = p:=Option.some.inj e
  subst e'
  exact ⟨hb,q⟩
theorem Inv.pinned {pins:List (Addr × Obj)} {σ : St} {H:Hp} {s:Shared} {fp:List Addr} (I:Inv X pins σ H s) (hf : ∀ b ∈ fp,jt0 X pins H b) (ho : ∀ b ∈ fp,∃ o,s.heap.get? b = some o ∧ ∀ v,o.data ≠ .cell v) : Inv X (pins ++ jlg fp s.heap) σ H s:=
 I.jq2 fun p hp=>(List.mem_append.mp hp).elim (fun z=>I.pin p (List.mem_append_right _ z)) fun z=>by
  obtain ⟨hb,e⟩:=jtq z
  obtain ⟨f0,f1,f2,_⟩:=hf p.1 hb
  obtain ⟨o,e',d⟩:=ho p.1 hb
  rw [e] at e'; cases e'
  exact ⟨e,f0,f1,f2,d⟩
theorem Inv.jld {pins pl:List (Addr × Obj)} {σ : St} {H:Hp} {s:Shared} (I:Inv X (pins ++ pl) σ H s) : Inv X pins σ H s:=I.jq2 fun p hp=>I.pin p (List.mem_append_right _ (List.mem_append_left _ hp))
theorem jg7 {iter:Expr} {body:List Stmt} {wi:TI} {g:TG} {tb:TS} {pos:Pos} (hp:PassesOwn (model X.prog X.w) X.A X.env X.xe) (hc:X.calm = true) (hi:PI X tg iter wi) (hg:PG X tg g) (hb:PSs X body tb)
  (hs : ∀ x,foldedSetIterable iter X.env x = pure x:=by intro _; rfl) : PS X (.For tg iter body [] pos) (j8d wi g tb):=by
 intro pins s σ H D I h
 refine wpAny_For (thn (hi pins s σ H _ I h) fun v s1 h1=>thn h1 fun itv s2 h2=>?_) hs
 obtain ⟨it,fp,tn,J,H2,e,I2,T,st2,f2,W,⟨m0,w0⟩,turn⟩:=h2
 subst e
 have stat : ∀ {H':Hp},(∀ b ∈ fp,H' b = none) → ∀ b ∈ fp,jt0 X pins H' b:=fun hn b hb=>⟨hn b hb,(f2 b hb).2⟩
 refine codeAny_forLoop_any (fun n s'=>∃ i σ' H',Inv X pins σ' H' s' ∧ tn i s'.heap ∧ (∀ b ∈ fp,H' b = none) ∧ W i n σ' H') ?_ m0 ⟨0,σ,H2,I2,st2,fun b hb=>(f2 b hb).1,w0⟩
 rintro n s3 ⟨i,σ3,H3,I3,st3,fr3,w3⟩
 rcases turn i n σ3 H3 w3 with ⟨stop,qn⟩ | ⟨go,N,hN,step⟩
 ·refine wpAny_passesOwn hp (thn (T.done X rfl rfl rfl hc i pins s3 σ3 H3 X.xe I3 (stat fr3) st3 stop) fun r s4 ⟨hr,I4⟩=>?_)
  subst hr
  exact wpAny_execs_nil ⟨σ3,H3,I4,qn⟩
 ·refine wpAny_passesOwn hp (thn (T.item X rfl rfl rfl hc i pins s3 σ3 H3 X.xe I3 (stat fr3) st3 go) fun r s4 ⟨u,hr,h4⟩=>?_)
  subst hr
  refine wpAny_passesOwn hp (thn h4 fun _ s5 ⟨x,H5,I5,r5,y5,st5,fr5⟩=>?_)
  have I5':=I5.pinned (stat fr5) (T.obj _ _ st5)
  refine wpAny_passesOwn hp (thn (hg _ s5 σ3 H5 x u _ I5' r5 (step x H5 y5)) fun _ s6 ⟨σ6,H6,I6,q6⟩=>?_)
  refine wpAny_passesOwn hp (thn (hb _ s6 σ6 H6 _ I6 q6) fun f s7 q7=>?_)
  have again : ∀ {σ7:St} {H7:Hp},Inv X (pins ++ jlg fp s5.heap) σ7 H7 s7 → N σ7 H7 → ∃ m,m < n ∧ ∃ i σ' H',Inv X pins σ' H' s7 ∧ tn i s7.heap ∧ (∀ b ∈ fp,H' b = none) ∧ W i m σ' H':=fun {σ7 H7} I7 n7=>by
   obtain ⟨m',hm,w7⟩:=hN σ7 H7 n7
   refine ⟨m',hm,i + 1,σ7,H7,I7.jld,T.keep _ _ _ st5 fun b hb o e=>(I7.pin (b,o) (List.mem_append_right _ (List.mem_append_right _ (jh3 hb e)))).1,fun b hb=>?_,w7⟩
   obtain ⟨o,e,d⟩:=T.obj _ _ st5 b hb
   exact (I7.pin (b,o) (List.mem_append_right _ (List.mem_append_right _ (jh3 hb e)))).2.1
  cases f with
  | next=>obtain ⟨σ7,H7,I7,n7⟩:=q7; exact again I7 n7
  | cont=>obtain ⟨σ7,H7,I7,n7⟩:=q7; exact again I7 n7
  | brk=>obtain ⟨σ7,H7,I7,q7⟩:=q7; exact ⟨σ7,H7,I7.jld,q7⟩
  | ret v=>obtain ⟨x7,σ7,H7,I7,r7,q7⟩:=q7; exact ⟨x7,σ7,H7,I7.jld,r7,q7⟩
end
theorem jfy {K:PySem.W.Frag} {a:Addr} {xs:List V} {g:TG} {tb:TS} {D:Ends} {σ : St} {H:Hp} (Pv:Nat → St → Hp → Prop) (h0:Pv 0 σ H) (hl : ∀ i σ H,i ≤ xs.length → Pv i σ H → SqL K H a xs)
  (hs : ∀ i x σ H,xs[i]? = some x → Pv i σ H → g x σ H fun σ2 H2=>tb { D with nx:=Pv (i + 1),ct:=Pv (i + 1),bk:=D.nx } σ2 H2) (hd : ∀ σ H,Pv xs.length σ H → D.nx σ H) :
  ∃ W:Nat → Nat → St → Hp → Prop,(∃ m,W 0 m σ H) ∧ ∀ i m σ H,W i m σ H →
   ((Itl K a).stop i H ∧ D.nx σ H) ∨ ((Itl K a).go i H ∧ ∃ N:St → Hp → Prop,(∀ σ' H',N σ' H' → ∃ m',m' < m ∧ W (i + 1) m' σ' H') ∧ ∀ x H',(Itl K a).yld i H x H' → g x σ H' fun σ2 H2=>tb { D with nx:=N,ct:=N,bk:=D.nx } σ2 H2):=by
 refine ⟨fun i m σ H=>m = xs.length - i ∧ i ≤ xs.length ∧ Pv i σ H,⟨xs.length,by simp,Nat.zero_le _,h0⟩,?_⟩
 rintro i m σ H ⟨rfl,hi,p⟩
 have q:=hl i σ H hi p
 by_cases hlt:i < xs.length
 ·refine .inr ⟨⟨xs,xs[i],q,by simp [hlt]⟩,Pv (i + 1),fun σ' H' p'=>⟨xs.length - (i + 1),by omega,rfl,hlt,p'⟩,fun x H' y=>?_⟩
  obtain ⟨e,y⟩:=y
  subst e
  exact hs i x σ _ (y xs q) p
 ·have e:i = xs.length:=by omega
  subst e
  exact .inl ⟨⟨xs,q,Nat.le_refl _⟩,hd σ H p⟩
theorem j21 {K:PySem.W.Frag} {a:Addr} {xs:List V} {g:TG} {tb:TS} {D:Ends} {σ : St} {H:Hp} (Pv:Nat → St → Hp → Prop) (h0:Pv 0 σ H) (hl : ∀ i σ H,i ≤ xs.length → Pv i σ H → SqT K H a xs)
  (hs : ∀ i x σ H,xs[i]? = some x → Pv i σ H → g x σ H fun σ2 H2=>tb { D with nx:=Pv (i + 1),ct:=Pv (i + 1),bk:=D.nx } σ2 H2) (hd : ∀ σ H,Pv xs.length σ H → D.nx σ H) :
  ∃ W:Nat → Nat → St → Hp → Prop,(∃ m,W 0 m σ H) ∧ ∀ i m σ H,W i m σ H →
   ((Itt K a).stop i H ∧ D.nx σ H) ∨ ((Itt K a).go i H ∧ ∃ N:St → Hp → Prop,(∀ σ' H',N σ' H' → ∃ m',m' < m ∧ W (i + 1) m' σ' H') ∧ ∀ x H',(Itt K a).yld i H x H' → g x σ H' fun σ2 H2=>tb { D with nx:=N,ct:=N,bk:=D.nx } σ2 H2):=by
 refine ⟨fun i m σ H=>m = xs.length - i ∧ i ≤ xs.length ∧ Pv i σ H,⟨xs.length,by simp,Nat.zero_le _,h0⟩,?_⟩
 rintro i m σ H ⟨rfl,hi,p⟩
 have q:=hl i σ H hi p
 by_cases hlt:i < xs.length
 ·refine .inr ⟨⟨xs,xs[i],q,by simp [hlt]⟩,Pv (i + 1),fun σ' H' p'=>⟨xs.length - (i + 1),by omega,rfl,hlt,p'⟩,fun x H' y=>?_⟩
  obtain ⟨e,y⟩:=y
  subst e
  exact hs i x σ _ (y xs q) p
 ·have e:i = xs.length:=by omega
  subst e
  exact .inl ⟨⟨xs,q,Nat.le_refl _⟩,hd σ H p⟩
theorem jpg {lo:Int} {n:Nat} {g:TG} {tb:TS} {D:Ends} {σ : St} {H:Hp} (Pv:Nat → St → Hp → Prop) (h0:Pv 0 σ H)
  (hs : ∀ i σ H,i < n → Pv i σ H → g (.int (lo + i)) σ H fun σ2 H2=>tb { D with nx:=Pv (i + 1),ct:=Pv (i + 1),bk:=D.nx } σ2 H2) (hd : ∀ σ H,Pv n σ H → D.nx σ H) :
  ∃ W:Nat → Nat → St → Hp → Prop,(∃ m,W 0 m σ H) ∧ ∀ i m σ H,W i m σ H →
   ((Itr lo n).stop i H ∧ D.nx σ H) ∨ ((Itr lo n).go i H ∧ ∃ N:St → Hp → Prop,(∀ σ' H',N σ' H' → ∃ m',m' < m ∧ W (i + 1) m' σ' H') ∧ ∀ x H',(Itr lo n).yld i H x H' → g x σ H' fun σ2 H2=>tb { D with nx:=N,ct:=N,bk:=D.nx } σ2 H2):=by
 refine ⟨fun i m σ H=>m = n - i ∧ i ≤ n ∧ Pv i σ H,⟨n,by simp,Nat.zero_le _,h0⟩,?_⟩
 rintro i m σ H ⟨rfl,hi,p⟩
 by_cases hlt:i < n
 ·refine .inr ⟨hlt,Pv (i + 1),fun σ' H' p'=>⟨n - (i + 1),by omega,rfl,hlt,p'⟩,fun x H' y=>?_⟩
  obtain ⟨e,y⟩:=y
  subst e y
  exact hs i σ _ hlt p
 ·have e:i = n:=by omega
  subst e
  exact .inl ⟨Nat.le_refl _,hd σ H p⟩
theorem jz3 {c:TT} {tb:TS} {D:Ends} {σ : St} {H:Hp} (Pv:St → Hp → Prop) (μ : St → Hp → Nat) (h0:Pv σ H)
  (hs : ∀ σ H,Pv σ H → c σ H fun b H1=>if b = true then tb { D with nx:=fun σ' H'=>Pv σ' H' ∧ μ σ' H' < μ σ H,ct:=fun σ' H'=>Pv σ' H' ∧ μ σ' H' < μ σ H,bk:=D.nx } σ H1 else D.nx σ H1)
  (mono : ∀ σ H Q Q',(∀ b H1,Q b H1 → Q' b H1) → c σ H Q → c σ H Q') : j1k c tb D σ H:=by
 refine ⟨fun m σ H=>m = μ σ H ∧ Pv σ H,⟨_,rfl,h0⟩,?_⟩
 rintro m σ H ⟨rfl,p⟩
 refine mono σ H _ _ (fun b H1 q=>?_) (hs σ H p)
 cases b with
 | true=>exact ⟨_,fun σ' H' ⟨p',l⟩=>⟨_,l,rfl,p'⟩,q⟩
 | false=>exact q
end L2
namespace L2
open PySem PySem.Spec PyProof.Rows
abbrev R2:=V → V → Hp → VK → Prop
def OpR (X:Cx) (f:Value → Value → Sem Value) (r:R2) : Prop:=
 ∀ (pins:List (Addr × Obj)) (s:Shared) (σ : St) (H:Hp) (x y:V) (v u:Value) (Q:VK),Inv X pins σ H s → RelV x v → RelV y u → r x y H Q →
  wpAny (model X.prog X.w) X.A (f v u) (EP X pins σ Q) X.xe s
def UnR (X:Cx) (f:Value → Sem Value) (r:V → Hp → VK → Prop) : Prop:=
 ∀ (pins:List (Addr × Obj)) (s:Shared) (σ : St) (H:Hp) (x:V) (v:Value) (Q:VK),Inv X pins σ H s → RelV x v → r x H Q →
  wpAny (model X.prog X.w) X.A (f v) (EP X pins σ Q) X.xe s
def jnm (X:Cx) (f:Value) (r:List V → Hp → VK → Prop) : Prop:=
 ∀ (pins:List (Addr × Obj)) (s:Shared) (σ : St) (H:Hp) (xs:List V) (us:List Value) (Q:VK),Inv X pins σ H s → Vals xs us → r xs H Q →
  wpAny (model X.prog X.w) X.A (call f us) (EP X pins σ Q) X.xe s
def j8j (X:Cx) (r:V → Hp → (Bool → Hp → Prop) → Prop) : Prop:=
 ∀ (pins:List (Addr × Obj)) (s:Shared) (σ : St) (H:Hp) (x:V) (v:Value) (Q:Bool → Hp → Prop),Inv X pins σ H s → RelV x v → r x H Q →
  wpAny (model X.prog X.w) X.A (truthy v) (TP X pins σ Q) X.xe s
def tOp (r:R2) (ta tb:TE) : TE:=fun σ H Q=>ta σ H fun x H1=>tb σ H1 fun y H2=>r x y H2 Q
def tUn (r:V → Hp → VK → Prop) (ta:TE) : TE:=fun σ H Q=>ta σ H fun x H1=>r x H1 Q
def rI (C:Int → Int → Prop) (g:Int → Int → V) : R2:=fun x y H Q=>∃ i j,x = .int i ∧ y = .int j ∧ C i j ∧ Q (g i j) H
def rI0 (g:Int → Int → V) : R2:=fun x y H Q=>∃ i j,x = .int i ∧ y = .int j ∧ Q (g i j) H
def rU (g:Int → V) : V → Hp → VK → Prop:=fun x H Q=>∃ i,x = .int i ∧ Q (g i) H
section
variable {X:Cx} {a b c:Expr} {ta tb tc:TE} {pos:Pos}
theorem j5r (ha:PE X a ta) (hb:PE X b tb) {pins:List (Addr × Obj)} {s:Shared} {σ : St} {H:Hp} {R:V → V → Hp → Prop} (I:Inv X pins σ H s)
  (h:ta σ H fun x H1=>tb σ H1 fun y H2=>R x y H2) {Q:Value → Shared → Prop} {f:Value → Value → Sem Value}
  (hf : ∀ v u s2 x y H2,Inv X pins σ H2 s2 → RelV x v → RelV y u → R x y H2 → wpAny (model X.prog X.w) X.A (f v u) Q X.xe s2) :
  wpAny (model X.prog X.w) X.A (eval a X.env) (fun v s₁=>wpAny (model X.prog X.w) X.A (eval b X.env) (fun u s₂=>wpAny (model X.prog X.w) X.A (f v u) Q X.xe s₂) X.xe s₁) X.xe s:=by
 refine thn (ha pins s σ H _ I h) fun v s1 ⟨x,H1,I1,r1,q1⟩=>?_
 refine thn (hb pins s1 σ H1 _ I1 q1) fun u s2 ⟨y,H2,I2,r2,q2⟩=>?_
 exact hf v u s2 x y H2 I2 r1 r2 q2
theorem xn {op:Operator} {r:R2} (ho:OpR X (binaryOp op) r) (ha:PE X a ta) (hb:PE X b tb) : PE X (.BinOp a op b pos) (tOp r ta tb):=by
 intro pins s σ H Q I h
 exact wpAny_BinOp (j5r ha hb I h fun v u s2 x y H2 I2 rx ry q=>ho pins s2 σ H2 x y v u Q I2 rx ry q)
theorem j6y {op:UnaryOp} {r:V → Hp → VK → Prop} (ho:UnR X (unaryOp op) r) (ha:PE X a ta) : PE X (.UnaryOp op a pos) (tUn r ta):=by
 intro pins s σ H Q I h
 exact UnaryOp_ (thn (ha pins s σ H _ I h) fun v s1 ⟨x,H1,I1,r1,q1⟩=>ho pins s1 σ H1 x v Q I1 r1 q1)
theorem opI {f:Value → Value → Sem Value} {C:Int → Int → Prop} {g:Int → Int → Int}
  (rule : ∀ (i j:Int) (t u:Tok) (s:Shared) (Q:Value → Shared → Prop) (E:Value → Shared → Prop),C i j → Q (.int (g i j) s.toks) { s with toks:=s.toks + 1 } → wpAny (model X.prog X.w) X.A (f (.int i t) (.int j u)) Q E s) :
  OpR X f (rI C fun i j=>.int (g i j)):=by
 intro pins s σ H x y v u Q I rx ry h
 obtain ⟨i,j,rfl,rfl,hc,q⟩:=h
 obtain ⟨t,rfl⟩:=rx
 obtain ⟨t',rfl⟩:=ry
 exact rule i j t t' s _ _ hc ⟨.int (g i j),H,I.tok _,⟨_,rfl⟩,q⟩
theorem j66 {f:Value → Value → Sem Value} {g:Int → Int → Int}
  (rule : ∀ (i j:Int) (t u:Tok) (s:Shared) (Q:Value → Shared → Prop) (E:Value → Shared → Prop),Q (.int (g i j) s.toks) { s with toks:=s.toks + 1 } → wpAny (model X.prog X.w) X.A (f (.int i t) (.int j u)) Q E s) :
  OpR X f (rI0 fun i j=>.int (g i j)):=by
 intro pins s σ H x y v u Q I rx ry h
 obtain ⟨i,j,rfl,rfl,q⟩:=h
 obtain ⟨t,rfl⟩:=rx
 obtain ⟨t',rfl⟩:=ry
 exact rule i j t t' s _ _ ⟨.int (g i j),H,I.tok _,⟨_,rfl⟩,q⟩
theorem j5o {f:Value → Value → Sem Value} {g:Int → Int → Bool}
  (rule : ∀ (i j:Int) (t u:Tok) (s:Shared) (Q:Value → Shared → Prop) (E:Value → Shared → Prop),Q (.bool (g i j)) s → wpAny (model X.prog X.w) X.A (f (.int i t) (.int j u)) Q E s) :
  OpR X f (rI0 fun i j=>.bl (g i j)):=by
 intro pins s σ H x y v u Q I rx ry h
 obtain ⟨i,j,rfl,rfl,q⟩:=h
 obtain ⟨t,rfl⟩:=rx
 obtain ⟨t',rfl⟩:=ry
 exact rule i j t t' s _ _ ⟨.bl (g i j),H,I,rfl,q⟩
def j8h (i j:Int) : Prop:=0 < j ∧ j < 1073741824
def j70 (i j:Int) : Prop:=0 ≤ j ∧ j ≤ 1000000 ∧ i.natAbs < 2 ^ 64
def j6d (i j:Int) : Prop:=(-(2 ^ 64) < i ∧ i < 2 ^ 64) ∨ (-(2 ^ 64) < j ∧ j < 2 ^ 64)
theorem j6d.ok {i j:Int} (h:j6d i j) : IntMulOk i j:=by
 rcases h with ⟨h1,h2⟩ | ⟨h1,h2⟩
 ·exact .of_left (intBits_le_64 h1 h2)
 ·exact .of_right (intBits_le_64 h1 h2)
theorem jer:OpR X (binaryOp .Add) (rI0 fun i j=>.int (i + j)):=j66 fun _ _ _ _ _ _ _ q=>add_int q
theorem jlm:OpR X (binaryOp .Sub) (rI0 fun i j=>.int (i - j)):=j66 fun _ _ _ _ _ _ _ q=>sub_int q
theorem jvt:OpR X (binaryOp .Mult) (rI j6d fun i j=>.int (i * j)):=opI fun _ _ _ _ _ _ _ hc q=>mul_int q hc.ok
theorem jt5:OpR X (binaryOp .FloorDiv) (rI j8h fun i j=>.int (i / j)):=opI fun i j _ _ _ _ _ hc q=>by
 have h1:(0:Int) < j:=hc.1
 have h2:j < 1073741824:=hc.2
 exact floordiv_int (by omega) (by rw [Int.fdiv_eq_ediv_of_nonneg i (by omega)]; exact q) (.inl (PyProof.noPylong_small (by omega)))
theorem jle:OpR X (binaryOp .Mod) (rI (fun _ j=>0 < j) fun i j=>.int (i % j)):=opI fun i j _ _ _ _ _ hc q=>by
 have h1:(0:Int) < j:=hc
 exact mod_int' (by omega) (by rw [Int.fmod_eq_emod_of_nonneg i (by omega)]; exact q)
theorem j41:OpR X (binaryOp .Pow) (rI j70 fun i j=>.int (i ^ j.toNat)):=opI fun _ _ _ _ _ _ _ hc q=>pow_int_small hc.1 hc.2.1 hc.2.2 q
theorem unI {f:Value → Sem Value} {g:Int → Int}
  (rule : ∀ (i:Int) (t:Tok) (s:Shared) (Q:Value → Shared → Prop) (E:Value → Shared → Prop),Q (.int (g i) s.toks) { s with toks:=s.toks + 1 } → wpAny (model X.prog X.w) X.A (f (.int i t)) Q E s) :
  UnR X f (rU fun i=>.int (g i)):=by
 intro pins s σ H x v Q I rx h
 obtain ⟨i,rfl,q⟩:=h
 obtain ⟨t,rfl⟩:=rx
 exact rule i t s _ _ ⟨.int (g i),H,I.tok _,⟨_,rfl⟩,q⟩
theorem j5b:UnR X (unaryOp .USub) (rU fun i=>.int (-i)):=unI fun _ _ _ _ _ q=>neg_int q
end
def j7g:V → V → Bool
 | .non,.non=>true | .non,.int _=>true | .int _,.non=>true | .non,.bl _=>true | .bl _,.non=>true | .non,.str _=>true | .str _,.non=>true
 | .int _,.int _=>true | .bl _,.bl _=>true | .str _,.str _=>true | .byt _,.byt _=>true
 | .int _,.str _=>true | .str _,.int _=>true | .bl _,.str _=>true | .str _,.bl _=>true
 | _,_=>false
def rEq:R2:=fun x y H Q=>j7g x y = true ∧ Q (.bl (decide (x = y))) H
def rNe:R2:=fun x y H Q=>j7g x y = true ∧ Q (.bl (!decide (x = y))) H
theorem jxz {i j:Int} : decide (V.int i = V.int j) = (i == j):=by
 rw [Bool.eq_iff_iff]
 simp
theorem j1p {i j:Bool} : decide (V.bl i = V.bl j) = (i == j):=by
 rw [Bool.eq_iff_iff]
 simp
theorem jxb {i j:Str} : decide (V.str i = V.str j) = (i == j):=by
 rw [Bool.eq_iff_iff]
 simp
theorem jyo {i j:Array UInt8} : decide (V.byt i = V.byt j) = (i.toList == j.toList):=by
 rw [Bool.eq_iff_iff]
 cases i
 cases j
 simp
section
variable {X:Cx} {a b c:Expr} {ta tb tc:TE} {pos:Pos}
theorem zr {pins:List (Addr × Obj)} {σ : St} {H:Hp} {s:Shared} {Q:VK} {k k':Bool} (I:Inv X pins σ H s) (q:Q (.bl k) H) (e:k = k') : EP X pins σ Q (.bool k') s:=by
 subst e
 exact ⟨.bl k,H,I,rfl,q⟩
theorem jin:OpR X (compareOp .Eq) rEq:=by
 intro pins s σ H x y v u Q I rx ry h
 obtain ⟨hs,q⟩:=h
 cases x with
 | non=>
  cases rx
  cases y with
  | non=>cases ry; exact PySem.EqNone.eq_none_none (zr I q (by simp))
  | bl j=>cases ry; exact PySem.EqNone.eq_none_bool (zr I q (by simp))
  | int j=>obtain ⟨t',rfl⟩:=ry; exact PySem.EqNone.eq_none_int (zr I q (by simp))
  | str j=>obtain ⟨t',rfl⟩:=ry; exact PySem.EqNone.eq_none_str (zr I q (by simp))
  | _=>exact absurd (show false = true from hs) Bool.false_ne_true
 | bl i=>
  cases rx
  cases y with
  | non=>cases ry; exact PySem.EqNone.eq_bool_none (zr I q (by simp))
  | bl j=>cases ry; exact eq_bool (zr I q j1p)
  | str j=>obtain ⟨t',rfl⟩:=ry; exact PySem.EqMixed.eq_bool_str (zr I q (by simp))
  | _=>exact absurd (show false = true from hs) Bool.false_ne_true
 | int i=>
  obtain ⟨t,rfl⟩:=rx
  cases y with
  | non=>cases ry; exact PySem.EqNone.eq_int_none (zr I q (by simp))
  | int j=>obtain ⟨t',rfl⟩:=ry; exact eq_int (zr I q jxz)
  | str j=>obtain ⟨t',rfl⟩:=ry; exact PySem.EqMixed.eq_int_str (zr I q (by simp))
  | _=>exact absurd (show false = true from hs) Bool.false_ne_true
 | str i=>
  obtain ⟨t,rfl⟩:=rx
  cases y with
  | non=>cases ry; exact PySem.EqNone.eq_str_none (zr I q (by simp))
  | bl j=>cases ry; exact PySem.EqMixed.eq_str_bool (zr I q (by simp))
  | int j=>obtain ⟨t',rfl⟩:=ry; exact PySem.EqMixed.eq_str_int (zr I q (by simp))
  | str j=>obtain ⟨t',rfl⟩:=ry; exact eq_str (zr I q jxb)
  | _=>exact absurd (show false = true from hs) Bool.false_ne_true
 | byt i=>
  obtain ⟨t,rfl⟩:=rx
  cases y with
  | byt j=>obtain ⟨t',rfl⟩:=ry; exact PySem.W.eq_bytes (zr I q jyo)
  | _=>exact absurd (show false = true from hs) Bool.false_ne_true
 | _=>cases y <;> exact absurd (show false = true from hs) Bool.false_ne_true
theorem j1z:OpR X (compareOp .NotEq) rNe:=by
 intro pins s σ H x y v u Q I rx ry h
 obtain ⟨hs,q⟩:=h
 cases x with
 | non=>
  cases rx
  cases y with
  | non=>cases ry; exact PySem.EqNone.ne_none_none (zr I q (by simp))
  | bl j=>cases ry; exact PySem.EqNone.ne_none_bool (zr I q (by simp))
  | int j=>obtain ⟨t',rfl⟩:=ry; exact PySem.EqNone.ne_none_int (zr I q (by simp))
  | str j=>obtain ⟨t',rfl⟩:=ry; exact PySem.EqNone.ne_none_str (zr I q (by simp))
  | _=>exact absurd (show false = true from hs) Bool.false_ne_true
 | bl i=>
  cases rx
  cases y with
  | non=>cases ry; exact PySem.EqNone.ne_bool_none (zr I q (by simp))
  | bl j=>cases ry; exact ne_bool (zr I q (congrArg not j1p))
  | str j=>obtain ⟨t',rfl⟩:=ry; exact PySem.EqMixed.ne_bool_str (zr I q (by simp))
  | _=>exact absurd (show false = true from hs) Bool.false_ne_true
 | int i=>
  obtain ⟨t,rfl⟩:=rx
  cases y with
  | non=>cases ry; exact PySem.EqNone.ne_int_none (zr I q (by simp))
  | int j=>obtain ⟨t',rfl⟩:=ry; exact ne_int (zr I q (congrArg not jxz))
  | str j=>obtain ⟨t',rfl⟩:=ry; exact PySem.EqMixed.ne_int_str (zr I q (by simp))
  | _=>exact absurd (show false = true from hs) Bool.false_ne_true
 | str i=>
  obtain ⟨t,rfl⟩:=rx
  cases y with
  | non=>cases ry; exact PySem.EqNone.ne_str_none (zr I q (by simp))
  | bl j=>cases ry; exact PySem.EqMixed.ne_str_bool (zr I q (by simp))
  | int j=>obtain ⟨t',rfl⟩:=ry; exact PySem.EqMixed.ne_str_int (zr I q (by simp))
  | str j=>obtain ⟨t',rfl⟩:=ry; exact ne_str (zr I q (congrArg not jxb))
  | _=>exact absurd (show false = true from hs) Bool.false_ne_true
 | byt i=>
  obtain ⟨t,rfl⟩:=rx
  cases y with
  | byt j=>obtain ⟨t',rfl⟩:=ry; exact PySem.W.ne_bytes (zr I q (congrArg not jyo))
  | _=>exact absurd (show false = true from hs) Bool.false_ne_true
 | _=>cases y <;> exact absurd (show false = true from hs) Bool.false_ne_true
theorem jz1:OpR X (compareOp .Lt) (rI0 fun i j=>.bl (decide (i < j))):=j5o fun _ _ _ _ _ _ _ q=>lt_int q
theorem jx0:OpR X (compareOp .LtE) (rI0 fun i j=>.bl (decide (i ≤ j))):=j5o fun _ _ _ _ _ _ _ q=>le_int q
theorem jxt:OpR X (compareOp .Gt) (rI0 fun i j=>.bl (decide (j < i))):=j5o fun _ _ _ _ _ _ _ q=>gt_int q
theorem j46:OpR X (compareOp .GtE) (rI0 fun i j=>.bl (decide (j ≤ i))):=j5o fun _ _ _ _ _ _ _ q=>ge_int q
theorem jx6:OpR X (compareOp .Is) (fun x y H Q=>y = .non ∧ Q (.bl (decide (x = .non))) H):=by
 intro pins s σ H x y v u Q I rx ry h
 obtain ⟨rfl,q⟩:=h
 cases ry
 refine is_none_gen (zr I q ?_)
 cases x <;> first
  | (cases rx; rfl)
  | (obtain ⟨t,rfl⟩:=rx; rfl)
theorem j2n:OpR X (compareOp .IsNot) (fun x y H Q=>y = .non ∧ Q (.bl (!decide (x = .non))) H):=by
 intro pins s σ H x y v u Q I rx ry h
 obtain ⟨rfl,q⟩:=h
 cases ry
 refine isnot_none_gen (zr I q ?_)
 cases x <;> first
  | (cases rx; rfl)
  | (obtain ⟨t,rfl⟩:=rx; rfl)
theorem qf (b:Expr) {op:CmpOp} (h:op ≠ .In:=by decide) (h2:op ≠ .NotIn:=by decide) : behindInMarks op b = false:=by
 have e1:(op == CmpOp.In) = false:=by cases op <;> first | rfl | exact absurd rfl h
 have e2:(op == CmpOp.NotIn) = false:=by cases op <;> first | rfl | exact absurd rfl h2
 cases b <;> simp [behindInMarks,e1,e2]
theorem jeh {op:CmpOp} {r:R2} (ho:OpR X (compareOp op) r) (ha:PE X a ta) (hb:PE X b tb) (hm:behindInMarks op b = false) : PE X (.Compare a [op] [b] pos) (tOp r ta tb):=by
 intro pins s σ H Q I h
 exact wpAny_Compare1 (j5r ha hb I h fun v u s2 x y H2 I2 rx ry q=>ho pins s2 σ H2 x y v u Q I2 rx ry q) hm
def j6z (t:TE) : TT:=fun σ H Q=>t σ H fun x H'=>∃ k,x = .bl k ∧ Q k H'
theorem jw {op:CmpOp} {r:R2} (ho:OpR X (compareOp op) r) (ha:PE X a ta) (hb:PE X b tb) (hm:behindInMarks op b = false) : PT X (.Compare a [op] [b] pos) (j6z (tOp r ta tb)):=by
 intro pins s σ H Q I h
 refine wpAny_isTrue_Compare1 (thn (ha pins s σ H _ I h) fun v s1 ⟨x,H1,I1,r1,q1⟩=>thn (hb pins s1 σ H1 _ I1 q1) fun u s2 ⟨y,H2,I2,r2,q2⟩=>
  thn (ho pins s2 σ H2 x y v u _ I2 r1 r2 q2) fun c s3 ⟨z,H3,I3,r3,k,e,q3⟩=>?_) hm
 subst e
 cases r3
 exact wpAny_truthy_bool ⟨H3,I3,q3⟩
def j4x (r r':R2) (ta tb tc:TE) : TE:=fun σ H Q=>ta σ H fun x H1=>tb σ H1 fun y H2=>r x y H2 fun z H3=>∃ k,z = .bl k ∧
 (if k = true then tc σ H3 fun w' H4=>r' y w' H4 Q else Q (.bl false) H3)
theorem jz2 {op op':CmpOp} {r r':R2} (ho:OpR X (compareOp op) r) (ho':OpR X (compareOp op') r') (ha:PE X a ta) (hb:PE X b tb) (hc:PE X c tc)
  (hm:lastMarks [op,op'] [b,c] = false:=by with_unfolding_all rfl) : PE X (.Compare a [op,op'] [b,c] pos) (j4x r r' ta tb tc):=by
 intro pins s σ H Q I h
 refine Compare_chain (thn (ha pins s σ H _ I h) fun v s1 ⟨x,H1,I1,r1,q1⟩=>chain_link (thn (hb pins s1 σ H1 _ I1 q1) fun u s2 ⟨y,H2,I2,r2,q2⟩=>
  thn (ho pins s2 σ H2 x y v u _ I2 r1 r2 q2) fun d s3 ⟨z,H3,I3,r3,k,e,q3⟩=>?_)) hm
 subst e
 cases r3
 refine wpAny_truthy_bool ?_
 cases k with
 | false=>exact ite_ff ⟨.bl false,H3,I3,rfl,q3⟩
 | true=>exact ite_tt (chain_last (thn (hc pins s3 σ H3 _ I3 q3) fun w' s4 ⟨z',H4,I4,r4,q4⟩=>ho' pins s4 σ H4 y z' u w' Q I4 r2 r4 q4))
def j5w (K:PySem.W.Frag) (x:V) (H:Hp) (k:Bool) : Prop:=
 match x with
 | .non=>k = false
 | .bl b=>k = b
 | .int i=>k = (i != 0)
 | .str y=>y.length ≤ sizeLine ∧ k = ((y.length:Int) != 0)
 | .byt y=>y.size ≤ sizeLine ∧ k = ((y.size:Int) != 0)
 | .ref p=>(∃ xs,SqL K H p xs ∧ k = !xs.isEmpty) ∨ (∃ xs,SqT K H p xs ∧ k = !xs.isEmpty) ∨ ∃ kvs,H p = some (.dK kvs) ∧ k = !kvs.isEmpty
 | _=>False
theorem jv6 {κ : Type} {kvs:List (κ × V)} {vs:List (κ × Value)} (r:KV kvs vs) : (!vs.isEmpty) = !kvs.isEmpty:=by
 cases r <;> rfl
theorem jqi {xs:List V} {its:List Value} (r:Vals xs its) : (!its.toArray.isEmpty) = !xs.isEmpty:=by
 cases r <;> simp
theorem jpw:(sizeLine:Nat) < 2 ^ 63:=by rw [sizeLine_eq]; decide
theorem j02:j8j X (fun x H Q=>∃ k,j5w X.K x H k ∧ Q k H):=by
 intro pins s σ H x v Q I rx h
 obtain ⟨k,e,q⟩:=h
 have hl:=jpw
 have hs:sizeLine = 16777216:=sizeLine_eq
 cases x with
 | non=>
  cases rx
  have e':k = false:=e
  subst e'
  exact truthy_none ⟨H,I,q⟩
 | bl b=>
  cases rx
  have e':k = b:=e
  subst e'
  exact wpAny_truthy_bool ⟨H,I,q⟩
 | int i=>
  obtain ⟨t,rfl⟩:=rx
  have e':k = (i != 0):=e
  subst e'
  exact PySem.P.truthy_int ⟨H,I,q⟩
 | str y=>
  obtain ⟨t,rfl⟩:=rx
  obtain ⟨hy,e'⟩ : y.length ≤ sizeLine ∧ k = ((y.length:Int) != 0):=e
  subst e'
  exact PySem.P.truthy_str (by omega) ⟨H,I.tok _,q⟩
 | byt y=>
  obtain ⟨t,rfl⟩:=rx
  obtain ⟨hy,e'⟩ : y.size ≤ sizeLine ∧ k = ((y.size:Int) != 0):=e
  subst e'
  exact PySem.W.truthy_bytes (by omega) ⟨H,I.tok _,q⟩
 | ref p=>
  cases rx
  have e':(∃ xs,SqL X.K H p xs ∧ k = !xs.isEmpty) ∨ (∃ xs,SqT X.K H p xs ∧ k = !xs.isEmpty) ∨ ∃ kvs,H p = some (.dK kvs) ∧ k = !kvs.isEmpty:=e
  rcases e' with ⟨xs,hx,e'⟩ | ⟨xs,hx,e'⟩ | ⟨kvs,hx,e'⟩
  ·subst e'
   obtain ⟨its,r,pl,hz⟩:=I.list hx
   have hlen:=r.length
   exact wpAny_truthy_list pl.isList (by simp only [List.size_toArray]; omega) ⟨H,I.tok _,by rw [jqi r]; exact q⟩
  ·subst e'
   obtain ⟨its,r,pl,hz⟩:=I.tuple hx
   have hlen:=r.length
   exact truthy_tuple pl (by simp only [List.size_toArray]; omega) ⟨H,I.tok _,by rw [jqi r]; exact q⟩
  ·subst e'
   obtain ⟨hz,hS,vs,r,m⟩ : kvs.length ≤ sizeLine ∧ (p == sysModules) = false ∧ ∃ vs,KV kvs vs ∧ s.heap.DictOf (zf X.prog X.w) p vs:=I.hok p _ hx
   have hlen:kvs.length = vs.length:=Paired.length r
   exact wpAny_truthy_dict hS m (by omega) ⟨H,I.tok _,by rw [jv6 r]; exact q⟩
 | _=>exact (show False from e).elim
theorem jzr (ha:PE X a ta) (he : ∀ whole,isTrue a X.env whole = (do let v ← whole; standAt a.pos; holding [v] (truthy v))) :
  PT X a (fun σ H Q=>ta σ H fun x H'=>∃ k,j5w X.K x H' k ∧ Q k H'):=by
 intro pins s σ H Q I h
 exact isTrue_plain (thn (ha pins s σ H _ I h) fun v s1 ⟨x,H1,I1,r1,q1⟩=>j02 pins s1 σ H1 x v Q I1 r1 q1) (he _)
theorem vals1 {x:V} {us:List Value} (r:Vals [x] us) : ∃ u,us = [u] ∧ RelV x u:=by
 cases r with
 | cons r1 r2=>cases r2; exact ⟨_,rfl,r1⟩
theorem vals2 {x y:V} {us:List Value} (r:Vals [x,y] us) : ∃ u w',us = [u,w'] ∧ RelV x u ∧ RelV y w':=by
 cases r with
 | cons r1 r2=>
  cases r2 with
  | cons r3 r4=>cases r4; exact ⟨_,_,rfl,r1,r3⟩
end
end L2
namespace L2
open PySem PySem.Spec PyProof.Rows
structure j2w (h:Heap) (x dx C:Addr) (mA:Str → Option Value) : Prop where
 obj:h.get? x = some (PySem.W.instObj C dx)
 ns:h.Ns1 dx mA
 ne:dx ≠ x
theorem jxe {h:Heap} {dx:Addr} {mA:Str → Option Value} (n:h.Ns1 dx mA) : ∃ od,h.get? dx = some od ∧ ∀ name,PySem.W.lookIn name od = some (mA name):=by
 obtain ⟨o,es,ep,ho,hd,hk,_,hm⟩:=n
 refine ⟨o,ho,fun name=>?_⟩
 have e:=hm name
 unfold nsFind findBy at e
 rw [← Array.find?_toList] at e
 unfold PySem.W.lookIn
 rw [hd]
 dsimp only
 split
 ·rename_i y q
  rw [q] at e
  exact congrArg some e
 ·rename_i q
  rw [q] at e
  have a:es.toList.any (·.refKey) = false:=by
   rw [List.any_eq_false]
   intro y hy
   obtain ⟨z,t,hkey⟩:=hk y (Array.mem_toList_iff.mp hy)
   simp [DictEntry.refKey,hkey]
  have a' : ¬ es.toList.any (·.refKey) = true:=by rw [a]; exact Bool.false_ne_true
  rw [if_neg a']
  exact congrArg some e
theorem j2w.look {h:Heap} {x dx C:Addr} {mA:Str → Option Value} (I:j2w h x dx C mA) : ∃ od,PySem.W.InstAt h x (PySem.W.instObj C dx) C (some od) ∧ ∀ name,PySem.W.lookIn name od = some (mA name):=
 let ⟨od,ho,hl⟩:=jxe I.ns
 ⟨od,⟨I.obj,rfl,rfl,ho⟩,hl⟩
section
variable {prog:Program} {w:World} {A:Around} {E:Value → Shared → Prop} {s:Shared} {K:PySem.W.Frag} {x dx C f:Addr} {mA:Str → Option Value} {name:Str} {v:Value}
theorem get_map {expr:Bool} {Q:Value → Shared → Prop} (X:K.In s.heap) (I:j2w s.heap x dx C mA) (hg:PySem.W.plainGet K C name = true) (hh:PySem.W.hasDictIn K C = true)
  (ha:PySem.W.findIn K (.ref C) name = some none) (hv:mA name = some v) (hv':PySem.W.handedIn v = true) (h:Q v { s with toks:=s.toks + 1 }) :
  wpAny (model prog w) A (getAttr (.ref x) name expr) Q E s:=by
 obtain ⟨od,J,hl⟩:=I.look
 exact PySem.W.get_value X J (PySem.W.plainGet_of hg).1 (PySem.W.findObj_own hh ha rfl (by rw [hl,hv])) hv' h
theorem jzb {pl:Sem Bool} {Q:Value × List Value → Shared → Prop} (X:K.In s.heap) (I:j2w s.heap x dx C mA) (hg:PySem.W.plainGet K C name = true)
  (hf:PySem.W.findIn K (.ref C) name = some (some (.ref f))) (ht:PySem.W.isFn K (.ref f) = true) (hv:mA name = none) (h:Q (.ref f,[.ref x]) s) :
  wpAny (model prog w) A (getMethod (.ref x) name pl) Q E s:=by
 obtain ⟨od,J,hl⟩:=I.look
 exact PySem.W.method_fn X J (PySem.W.plainGet_of hg).1 (PySem.W.plainGet_of hg).2 hf (beq_iff_eq.mp ht) (by show (PySem.W.lookIn name od).map (·.isSome) = some false; rw [hl,hv]; rfl) h
theorem ju1 {ns:List Str} {Q:Unit → Shared → Prop} (X:K.In s.heap) (I:j2w s.heap x dx C mA)
  (hs:PySem.W.findIn K (.ref C) "__setattr__" = some (some (.builtin "object.__setattr__"))) (hp:PySem.W.plainOver K C = true) (ht:PySem.W.takerIn K C name = some none) (hh:PySem.W.hasDictIn K C = true)
  (hw:PySem.Within mA ns) (hsz:ns.length ≤ sizeLine)
  (h : ∀ h',j2w h' x dx C (fun y=>if y = name then some v else mA y) → Heap.SameBut dx s.heap h' → Q () { s with heap:=h',toks:=s.toks + 2 }) :
  wpAny (model prog w) A (setAttr (.ref x) name v) Q E s:=by
 obtain ⟨od,J,hl⟩:=I.look
 refine PySem.W.set_plain X J hs (PySem.W.osa_open (s:={ s with toks:=s.toks + 1 }) (r:=none) X J hp ht fun b=>?_)
 obtain ⟨cd,hc,hd'⟩:=PySem.W.any_some hh
 have hx:s.heap.get? x = some ⟨.ref C,some dx,.plain,#[]⟩:=I.obj
 refine wpAny_bind (wpAny_pure (wpAny_bind (wpAny_bind (wpAny_loadPart hx (wpAny_bind (PySem.W.Looks.here (s:={ s with toks:=s.toks + 1 }) (PySem.W.looks_clsIn X hc) ?_))))))
 rw [hd']
 refine wpAny_pure (a:=some dx) (wpAny_bind (wpAny_pure (wpAny_bind ?_)))
 refine wpAny_nsSet1 (s:={ s with toks:=s.toks + 1 }) I.ns fun h' hn2 hs2=>?_
 obtain ⟨oD,esD,epD,hoD,hdD,hcD⟩:=hn2.count (PySem.Within.cons name v hw)
 refine wpAny_bind (wpAny_lookBehind hoD (by rw [hdD]; exact pastItsLine_dict (Nat.le_trans hcD (by rw [List.length_cons]; omega))) ?_)
 exact wpAny_pure (h _ ⟨(hs2.2 _ (Ne.symm I.ne)).trans I.obj,hn2,I.ne⟩ hs2)
theorem jva {R:Result → Shared → Prop} {vs:List Value} {kw:List (Str × Value)} (X:K.In s.heap) (hm:PySem.W.makesIn K C = true)
  (hi:PySem.W.findIn K (.ref C) "__init__" = some (some (.ref f))) (hf:PySem.W.typeIn K (.ref f) = some (.type "function"))
  (h:codeAny (model prog w) (A.under (.builtin "type.__call__" ⟨.ref C :: vs,kw⟩)) (.call (.ref f) ⟨.ref (s.heap.objs.size + 1) :: vs,kw⟩) (PySem.W.InitBack (s.heap.objs.size + 1) R)
   { s with heap:=(s.heap.push PySem.W.emptyDict).push (PySem.W.instObj C s.heap.objs.size) }) :
  codeAny (model prog w) A (.call (.ref C) ⟨vs,kw⟩) R s:=by
 obtain ⟨hh,g,d,t,os⟩:=s
 exact PySem.W.make_core (PySem.W.makes_of X hm) (PySem.W.looks_findIn X hi) (fun self=>PySem.W.bind_fn X self hf) (.inl rfl) h
end
def pf (f:Str) (v:V) : List (Str × V) → List (Str × V)
 | []=>[(f,v)]
 | (g,x) :: r=>if g = f then (g,v) :: r else (g,x) :: pf f v r
theorem jl (f g:Str) (v:V) : ∀ fs:List (Str × V),(pf f v fs).lookup g = if g = f then some v else fs.lookup g
 | []=>by
  show List.lookup g [(f,v)] = _
  by_cases h:g = f
  ·have hb:(g == f) = true:=beq_iff_eq.mpr h
   simp only [List.lookup,hb,if_pos h]
  ·have hb:(g == f) = false:=beq_eq_false_iff_ne.mpr h
   simp only [List.lookup,hb,if_neg h]
 | (k, x) :: r=>by
  have ih:=jl f g v r
  rw [show pf f v ((k,x) :: r) = (if k = f then (k,v) :: r else (k,x) :: pf f v r) from rfl]
  by_cases hk:k = f
  ·rw [if_pos hk]
   by_cases h:g = k
   ·have hb:(g == k) = true:=beq_iff_eq.mpr h
    simp only [List.lookup,hb,if_pos (h.trans hk)]
   ·have hb:(g == k) = false:=beq_eq_false_iff_ne.mpr h
    simp only [List.lookup,hb,if_neg (fun e:g = f=>h (e.trans hk.symm))]
  ·rw [if_neg hk]
   by_cases h:g = k
   ·have hb:(g == k) = true:=beq_iff_eq.mpr h
    simp only [List.lookup,hb,if_neg (fun e:g = f=>hk (h.symm.trans e))]
   ·have hb:(g == k) = false:=beq_eq_false_iff_ne.mpr h
    simp only [List.lookup,hb]
    exact ih
theorem jo4 (f:Str) (v:V) : ∀ fs:List (Str × V),f ∈ (pf f v fs).map (·.1) ∧ ∀ g,g ∈ fs.map (·.1) → g ∈ (pf f v fs).map (·.1)
 | []=>⟨by simp [pf],fun g h=>by simp at h⟩
 | (k, x) :: r=>by
  obtain ⟨i1,i2⟩:=jo4 f v r
  rw [show pf f v ((k,x) :: r) = (if k = f then (k,v) :: r else (k,x) :: pf f v r) from rfl]
  by_cases hk:k = f
  ·rw [if_pos hk]
   subst hk
   exact ⟨by simp,fun g h=>by simpa using h⟩
  ·rw [if_neg hk]
   refine ⟨?_,fun g h=>?_⟩
   ·rw [List.map_cons]
    exact List.mem_cons_of_mem _ i1
   ·rw [List.map_cons] at h ⊢
    rcases List.mem_cons.mp h with e | e
    ·exact List.mem_cons.mpr (.inl e)
    ·exact List.mem_cons_of_mem _ (i2 g e)
theorem jo3 (f:Str) (v:V) : ∀ fs:List (Str × V),(pf f v fs).length ≤ fs.length + 1
 | []=>by simp [pf]
 | (k,x) :: r=>by
  have ih:=jo3 f v r
  rw [show pf f v ((k,x) :: r) = (if k = f then (k,v) :: r else (k,x) :: pf f v r) from rfl]
  by_cases hk:k = f
  ·rw [if_pos hk,List.length_cons,List.length_cons]; omega
  ·rw [if_neg hk,List.length_cons,List.length_cons]; omega
theorem jr6.some_of {v:V} {o:Option Value} (r:jr6 (some v) o) : ∃ u,o = some u ∧ RelV v u:=by
 cases o with
 | none=>exact (show False from r).elim
 | some u=>exact ⟨u,rfl,r⟩
theorem jr6.none_of {o:Option Value} (r:jr6 none o) : o = none:=by
 cases o with
 | none=>rfl
 | some u=>exact (show False from r).elim
theorem jxc {v:V} {u:Value} (r:RelV v u) : PySem.W.handedIn u = true:=by
 cases v with
 | non=>cases (show u = Value.none from r); rfl
 | bl b=>cases (show u = Value.bool b from r); rfl
 | int i=>obtain ⟨t,e⟩:=(show ∃ t,u = Value.int i t from r); cases e; rfl
 | str x=>obtain ⟨t,e⟩:=(show ∃ t,u = Value.str x t from r); cases e; rfl
 | byt b=>obtain ⟨t,e⟩:=(show ∃ t,u = Value.bytes b t from r); cases e; rfl
 | flt b=>obtain ⟨t,e⟩:=(show ∃ t,u = Value.float b t from r); cases e; rfl
 | ref a=>cases (show u = Value.ref a from r); rfl
 | ty n=>cases (show u = Value.type n from r); rfl
section
variable {P:Program} {w:World} {H H':Hp} {h h':Heap} {a C dx:Addr} {fs fs':List (Str × V)}
theorem jrb (hok:HOk P w H h) (e:H a = some (.ins C dx fs)) : ∃ mA,j2w h a dx C mA ∧ (∀ f,jr6 (fs.lookup f) (mA f)) ∧ PySem.Within mA (fs.map (·.1)) ∧ fs.length ≤ 1000 ∧ H dx = some (.own a):=by
 obtain ⟨d,z,ne,ob,mA,n,r,q⟩:=(show we P w H h a (.ins C dx fs) from hok a _ e)
 exact ⟨mA,⟨ob,n,ne⟩,r,q,z,d⟩
end
structure Cls (K:PySem.W.Frag) (C:Addr) : Prop where
 pg:PySem.W.plainGet K C Str.empty = true
 hd:PySem.W.hasDictIn K C = true
 po:PySem.W.plainOver K C = true
 sa:PySem.W.findIn K (.ref C) "__setattr__" = some (some (.builtin "object.__setattr__"))
theorem Cls.get {K:PySem.W.Frag} {C:Addr} (c:Cls K C) (f:Str) : PySem.W.plainGet K C f = true:=c.pg
def yh (K:PySem.W.Frag) (C:Addr) (f:Str) : Prop:=PySem.W.findIn K (.ref C) f = some none
theorem yh.j59 {K:PySem.W.Frag} {C:Addr} {f:Str} (n:yh K C f) : PySem.W.takerIn K C f = some none:=by
 unfold PySem.W.takerIn
 rw [show PySem.W.findIn K (.ref C) f = some none from n]
 rfl
structure Meth (K:PySem.W.Frag) (C:Addr) (m:Str) (f:Addr) : Prop where
 at_:PySem.W.findIn K (.ref C) m = some (some (.ref f))
 fn:PySem.W.isFn K (.ref f) = true
 kp:PySem.W.keepIn K (.ref f) = true
section
variable {X:Cx} {pins:List (Addr × Obj)} {σ : St} {H:Hp} {s:Shared} {a C dx:Addr} {fs:List (Str × V)} {f:Str} {v:V} {A:Around} {E:Value → Shared → Prop}
theorem jwn {b:Bool} {Q:Value → Shared → Prop} (I:Inv X pins σ H s) (e:H a = some (.ins C dx fs)) (c:Cls X.K C) (n:yh X.K C f) (l:fs.lookup f = some v)
  (h : ∀ u s',Inv X pins σ H s' → RelV v u → Q u s') : wpAny (model X.prog X.w) A (getAttr (.ref a) f b) Q E s:=by
 obtain ⟨mA,O,r,_,_,_⟩:=jrb I.hok e
 obtain ⟨u,hu,ru⟩:=jr6.some_of (v:=v) (o:=mA f) (by rw [← l]; exact r f)
 exact get_map I.kIn O (c.get f) c.hd n hu (jxc ru) (h u _ (I.tok _) ru)
theorem jib {m:Str} {g:Addr} {pl:Sem Bool} {Q:Value × List Value → Shared → Prop} (I:Inv X pins σ H s) (e:H a = some (.ins C dx fs)) (c:Cls X.K C) (k:Meth X.K C m g) (l:fs.lookup m = none)
  (h:Q (.ref g,[.ref a]) s) : wpAny (model X.prog X.w) A (getMethod (.ref a) m pl) Q E s:=by
 obtain ⟨mA,O,r,_,_,_⟩:=jrb I.hok e
 have hn:mA m = none:=jr6.none_of (by rw [← l]; exact r m)
 exact jzb I.kIn O (c.get m) k.at_ k.fn hn h
theorem jwk {y:V} {u:Value} {Q:Unit → Shared → Prop} (I:Inv X pins σ H s) (e:H a = some (.ins C dx fs)) (c:Cls X.K C) (n:yh X.K C f) (hl:fs.length < 1000) (ry:RelV y u)
    (h : ∀ s',Inv X pins σ (upd H a (.ins C dx (pf f y fs))) s' → Q () s') : wpAny (model X.prog X.w) A (setAttr (.ref a) f u) Q E s:=by
  obtain ⟨mA,O,r,wi,_,ho⟩:=jrb I.hok e
  have hz:(fs.map (·.1)).length ≤ sizeLine:=by rw [List.length_map,sizeLine_eq]; omega
  refine ju1 I.kIn O c.sa c.po n.j59 c.hd wi hz fun h' O' sb=>h _ ?_
  have hd : ∃ o,h'.get? dx = some o:=let ⟨o,_,_,e',_⟩:=O'.ns; ⟨o,e'⟩
  refine I.write (x:=a) (e:=dx) (by rw [e]; exact True.intro) (.inr ho) (fun b q hb z=>(sb.2 b hb).trans z) hd ?_
  refine ⟨by rw [je O.ne]; exact ho,?_,O.ne,O'.obj,_,O'.ns,fun g=>?_,fun g hg=>?_⟩
  · have:=jo3 f y fs; omega
  · show jr6 ((pf f y fs).lookup g) (if g = f then some u else mA g)
    rw [jl]
    by_cases q:g = f
    · rw [if_pos q,if_pos q]; exact ry
    · rw [if_neg q,if_neg q]; exact r g
  · by_cases q:g = f
    · rw [q]; exact (jo4 f y fs).1
    · refine (jo4 f y fs).2 g (wi g fun z=>hg ?_)
      show (if g = f then some u else mA g) = none
      rw [if_neg q]; exact z
theorem Inv.made (I:Inv X pins σ H s) : Inv X pins σ (upd (upd H s.heap.objs.size (.own (s.heap.objs.size + 1))) (s.heap.objs.size + 1) (.ins C s.heap.objs.size []))
  { s with heap:=(s.heap.push PySem.W.emptyDict).push (PySem.W.instObj C s.heap.objs.size) }:=by
 have e1:(s.heap.push PySem.W.emptyDict).get? s.heap.objs.size = some PySem.W.emptyDict:=Heap.get?_push_size s.heap rfl
 have e2:((s.heap.push PySem.W.emptyDict).push (PySem.W.instObj C s.heap.objs.size)).get? (s.heap.objs.size + 1) = some (PySem.W.instObj C s.heap.objs.size):=by
  have:=Heap.get?_push_size (s.heap.push PySem.W.emptyDict) (o:=PySem.W.instObj C s.heap.objs.size) rfl
  rwa [Heap.size_push] at this
 have e3:(s.heap.push PySem.W.emptyDict).Ns s.heap.objs.size (fun _=>none):=⟨PySem.W.emptyDict,#[],_,e1,rfl,(fun e he=>absurd he (by simp)),fun _=>rfl⟩
 have I1:=I.laid (a:=s.heap.objs.size) (o:=.own (s.heap.objs.size + 1)) (h':=s.heap.push PySem.W.emptyDict) (t':=s.toks) (fun b u q=>Heap.get?_push_of_some _ q) (Nat.le_refl _) ⟨_,e1⟩
 refine I1.laid (a:=s.heap.objs.size + 1) (o:=.ins C s.heap.objs.size []) (t':=s.toks) (fun b u q=>Heap.get?_push_of_some _ q) (Nat.le_of_eq (Heap.size_push _ _)) ?_
 have ne:s.heap.objs.size ≠ s.heap.objs.size + 1:=Nat.ne_of_lt (Nat.lt_succ_self _)
 refine ⟨by rw [je ne,ja],Nat.zero_le _,ne,e2,fun _=>none,(Heap.Ns1.of_empty e3).at fun o q=>Heap.get?_push_of_some _ q,fun _=>True.intro,fun y hy=>absurd rfl hy⟩
theorem j3j {prog:Program} {w:World} {env:Env} {e:Expr} {f:Str} {pos:Pos} {s:Shared} {Q:Value → Shared → Prop} (hb:attributeBase e f env (eval e env) = eval e env)
  (h:wpAny (model prog w) A (eval e env) (fun o s₁=>wpAny (model prog w) A (getAttr o f true) Q E s₁) E s) : wpAny (model prog w) A (eval (.Attribute e f pos) env) Q E s:=
 Attribute_any_ h (by rw [arm_eval_Attribute,hb])
end
def j7o (K:PySem.W.Frag) (ta:TE) (f:Str) : TE:=fun σ H Q=>ta σ H fun x H1=>∃ a C dx fs v,x = .ref a ∧ H1 a = some (.ins C dx fs) ∧ Cls K C ∧ yh K C f ∧ fs.lookup f = some v ∧ Q v H1
def j7y (K:PySem.W.Frag) (ta tv:TE) (f:Str) : TS:=fun D σ H=>tv σ H fun y H1=>ta σ H1 fun x H2=>∃ a C dx fs,x = .ref a ∧ H2 a = some (.ins C dx fs) ∧ Cls K C ∧ yh K C f ∧ fs.length < 1000 ∧
 D.nx σ (upd H2 a (.ins C dx (pf f y fs)))
section
variable {X:Cx} {o e value:Expr} {f:Str} {pos pos' tpos:Pos} {ta tv:TE}
theorem j9 (he:PE X e ta) (hb:attributeBase e f X.env (eval e X.env) = eval e X.env) : PE X (.Attribute e f pos) (j7o X.K ta f):=by
 intro pins s σ H Q I h
 refine j3j hb (thn (he pins s σ H _ I h) fun u s1 ⟨x,H1,I1,rx,a,C,dx,fs,v,ex,ea,c,n,l,q⟩=>?_)
 subst ex
 obtain rfl:u = Value.ref a:=rx
 exact jwn I1 ea c n l fun u' s2 I2 ru=>⟨v,H1,I2,ru,q⟩
theorem jag (ha:PE X o ta) (hv:PE X value tv) (hs:swapsWith value (some (.Attribute o f pos')) pos.line X.env = pure false) : PS X (.Assign [.Attribute o f pos'] value pos) (j7y X.K ta tv f):=by
 intro pins s σ H D I h
 refine plainObj_wpAny_Assign_Attribute (thn (hv pins s σ H _ I h) fun u s1 ⟨y,H1,I1,ry,q⟩=>thn (ha pins s1 σ H1 _ I1 q) fun ov s2 ⟨x,H2,I2,rx,a,C,dx,fs,ex,ea,c,n,l,q2⟩=>?_) hs
 subst ex
 obtain rfl:ov = Value.ref a:=rx
 exact jwk I2 ea c n l ry fun s3 I3=>⟨σ,_,I3,q2⟩
theorem j1u {pl:Sem Bool} {m:Str} {apos:Pos} {args:List Expr} {pins:List (Addr × Obj)} {s:Shared} {σ : St} {H:Hp} {Q:Value → Shared → Prop} {te:TE} (he:PE X e te) (I:Inv X pins σ H s)
  (h:te σ H fun x H1=>∃ a C dx fs g,x = .ref a ∧ H1 a = some (.ins C dx fs) ∧ Cls X.K C ∧ Meth X.K C m g ∧ fs.lookup m = none ∧
   ∀ s1,Inv X pins σ H1 s1 → wpAny (model X.prog X.w) X.A (callWith pos (.ref g) [.ref a] (backTo pos (starEach args X.env)) (backToKw pos (keywordEach [] X.env))) Q X.xe s1)
  (ht:eval (.Call (.Attribute e m apos) args [] pos) X.env = (do
   let ov ← eval e X.env
   standAt apos.atName
   let (f,first) ← holding [ov] (getMethod ov m pl)
   callWith pos f first (backTo pos (starEach args X.env)) (backToKw pos (keywordEach [] X.env)))) :
  wpAny (model X.prog X.w) X.A (eval (.Call (.Attribute e m apos) args [] pos) X.env) Q X.xe s:=by
 refine PySem.W.methodCall_KW (pl:=pl) (thn (he pins s σ H _ I h) fun u s1 ⟨x,H1,I1,rx,a,C,dx,fs,g,ex,ea,c,k,l,q⟩=>?_) ht
 subst ex
 obtain rfl:u = Value.ref a:=rx
 exact jib I1 ea c k l (q s1 I1)
end
section
variable {X:Cx} {pins:List (Addr × Obj)} {σ : St} {H:Hp} {s:Shared} {A:Around} {E:Value → Shared → Prop} {Q:Value → Shared → Prop} {c:Value} {b:Bool}
inductive jwj (K:PySem.W.Frag) (H:Hp) : V → Value → Prop where
 | non:jwj K H .non (.type "NoneType")
 | bl (x:Bool) : jwj K H (.bl x) (.type "bool")
 | int (i:Int) : jwj K H (.int i) (.type "int")
 | str (x:Str) : jwj K H (.str x) (.type "str")
 | flt (x:UInt64) : jwj K H (.flt x) (.type "float")
 | lst {a:Addr} {xs:List V} (e:H a = some (.lst xs)) : jwj K H (.ref a) (.type "list")
 | frz {a:Addr} {o:Obj} {xs:List V} (e:H a = some (.frz o (.lst xs))) : jwj K H (.ref a) (.type "list")
 | tup {a:Addr} {xs:List V} (e:H a = some (.tup xs)) : jwj K H (.ref a) (.type "tuple")
 | dK {a:Addr} {kvs:List (Key × V)} (e:H a = some (.dK kvs)) : jwj K H (.ref a) (.type "dict")
 | dT {a:Addr} {kvs:List (List Key × V)} (e:H a = some (.dT kvs)) : jwj K H (.ref a) (.type "dict")
 | ins {a C dx:Addr} {fs:List (Str × V)} (e:H a = some (.ins C dx fs)) (cl:Cls K C) (ha:PySem.W.findIn K (.ref C) "__class__" = some (some (.builtin "object.__class__")))
   (hn:PySem.W.specialIn K (.builtin "object.__class__") "__get__" = some (some (.builtin "getset_descriptor.__get__"))) (htk:PySem.W.takesIn K (.builtin "object.__class__") = some true)
   (hm:PySem.W.mroIn K C (.type "object") = some true) : jwj K H (.ref a) (.ref C)
theorem jw9 {x:V} {u t:Value} (I:Inv X pins σ H s) (rx:RelV x u) (ty:jwj X.K H x t) (e:PySem.W.kitOne X.K t c = some b) (h : ∀ tk,Q (.bool b) { s with toks:=tk }) :
  wpAny (model X.prog X.w) A (call (.builtin "isinstance") [u,c]) Q E s:=by
 cases ty with
 | non=>cases (show u = Value.none from rx); exact PySem.W.kia_one PySem.W.kitx_none I.kIn True.intro e (fun z=>nomatch z) h
 | bl y=>cases (show u = Value.bool y from rx); exact PySem.W.kia_one PySem.W.kitx_bool I.kIn True.intro e (fun z=>nomatch z) h
 | int i=>obtain ⟨t,q⟩:=(show ∃ t,u = Value.int i t from rx); cases q; exact PySem.W.kia_one PySem.W.kitx_int I.kIn True.intro e (fun z=>nomatch z) h
 | str y=>obtain ⟨t,q⟩:=(show ∃ t,u = Value.str y t from rx); cases q; exact PySem.W.kia_one PySem.W.kitx_str I.kIn True.intro e (fun z=>nomatch z) h
 | flt y=>obtain ⟨t,q⟩:=(show ∃ t,u = Value.float y t from rx); cases q; exact PySem.W.kia_one PySem.W.kitx_float I.kIn True.intro e (fun z=>nomatch z) h
 | @lst a xs ea=>
  cases (show u = Value.ref a from rx)
  obtain ⟨_,_,n,_,h1⟩:=(show we X.prog X.w H s.heap a (.lst xs) from I.hok a _ ea)
  exact PySem.W.kia_one PySem.W.kitx_list I.kIn ⟨_,h1,rfl⟩ e (fun z=>nomatch z) h
 | @frz a ob xs ea=>
  cases (show u = Value.ref a from rx)
  obtain ⟨_,_,_,n,_,h1⟩:=(show we X.prog X.w H s.heap a (.frz ob (.lst xs)) from I.hok a _ ea)
  exact PySem.W.kia_one PySem.W.kitx_list I.kIn ⟨_,h1,rfl⟩ e (fun z=>nomatch z) h
 | @tup a xs ea=>
  cases (show u = Value.ref a from rx)
  obtain ⟨_,_,_,p⟩:=(show we X.prog X.w H s.heap a (.tup xs) from I.hok a _ ea)
  obtain ⟨o,h1,h2,_⟩:=p
  exact PySem.W.kia_one PySem.W.kitx_tuple I.kIn ⟨o,h1,h2⟩ e (fun z=>nomatch z) h
 | @dK a kvs ea=>
  cases (show u = Value.ref a from rx)
  obtain ⟨_,_,vs,_,p⟩:=(show we X.prog X.w H s.heap a (.dK kvs) from I.hok a _ ea)
  obtain ⟨o,es,ep,h1,h2,_⟩:=p
  exact PySem.W.kia_one PySem.W.kitx_dict I.kIn ⟨o,h1,h2.1⟩ e (fun z=>nomatch z) h
 | @dT a kvs ea=>
  cases (show u = Value.ref a from rx)
  obtain ⟨_,_,xs,_,o,es,ep,h1,h2,_⟩:=(show we X.prog X.w H s.heap a (.dT kvs) from I.hok a _ ea)
  exact PySem.W.kia_one PySem.W.kitx_dict I.kIn ⟨o,h1,h2.1⟩ e (fun z=>nomatch z) h
 | @ins a C dx fs ea cl ha hn htk hm=>
  cases (show u = Value.ref a from rx)
  obtain ⟨mA,O,_⟩:=jrb I.hok ea
  obtain ⟨od,J,_⟩:=O.look
  exact PySem.W.kia_one (PySem.W.kitx_own (cl.get _) cl.hd ha hn htk hm) I.kIn J e (fun z=>nomatch z) h
end
end L2
namespace L2
open PySem PySem.Spec PyProof.Rows
structure jfi (k:Nat) (A:Around) : Prop where
 hd:A.handled = none
 dp:A.depth + 3 * k + 5 < recursionLimit
 un:A.units + 16 * k + 200 < cLine
theorem jfi.mono {j k:Nat} {A:Around} (r:jfi k A) (h:j ≤ k) : jfi j A:=⟨r.hd,by have:=r.dp; omega,by have:=r.un; omega⟩
theorem jfi.dn {j k:Nat} {A:Around} (r:jfi k A) (h:j ≤ k:=by decide) : jfi j A:=r.mono h
theorem jfi.deeper {k:Nat} {A:Around} (r:jfi (k + 1) A) (env:Env) : jfi k (A.deeper env):=
 ⟨r.hd,by have:=r.dp; show A.depth + 1 + 3 * k + 5 < _; omega,by have:=r.un; show A.units + 3 + 16 * k + 200 < _; omega⟩
theorem jwb {A:Around} {C:Addr} {us:List Value} {kw:List (Str × Value)} : (A.under (.builtin "type.__call__" ⟨.ref C :: us,kw⟩)).depth = A.depth + 1:=by
 first | rfl | simp [Around.under,Code.weight,Code.isCreation,Code.isGuard,Code.isCaller,Code.frames,Code.isFrame,guardIds]
theorem jwl {A:Around} {C:Addr} {us:List Value} {kw:List (Str × Value)} : (A.under (.builtin "type.__call__" ⟨.ref C :: us,kw⟩)).units = A.units + 1:=by
 first | rfl | simp [Around.under,Code.cUnits,Code.frames,Code.isFrame]
theorem jfi.make {k:Nat} {A:Around} (r:jfi (k + 1) A) (C:Addr) (us:List Value) (kw:List (Str × Value)) : jfi k (A.under (.builtin "type.__call__" ⟨.ref C :: us,kw⟩)):=
 ⟨r.hd,by have:=r.dp; rw [jwb]; omega,by have:=r.un; rw [jwl]; omega⟩
theorem jfi.depth {k:Nat} {A:Around} (r:jfi k A) : A.depth < recursionLimit:=by have:=r.dp; omega
theorem jfi.units {k:Nat} {A:Around} (r:jfi k A) : A.units + 64 < cLine:=by have:=r.un; omega
def jz8:TA:=fun _ H Q=>Q [] H
def vy (ta:TE) (tr:TA) : TA:=fun σ H Q=>ta σ H fun x H1=>tr σ H1 fun xs H2=>Q (x :: xs) H2
section
variable {X:Cx} {e:Expr} {es:List Expr} {te:TE} {t:TA} {pos:Pos}
theorem jf:PA X [] jz8:=fun _ _ _ _ H Q I h=>Calls.spliced_nil ⟨[],H,I,.nil,h⟩
theorem j2a (ha:PE X e te) (hr:PA X es t) (hs:starEach (e :: es) X.env = (false,eval e X.env) :: starEach es X.env:=by rfl) : PA X (e :: es) (vy te t):=by
 intro pos pins s σ H Q I h
 rw [hs]
 show wpAny _ _ (spliced ((false,eval e X.env) :: backTo pos (starEach es X.env))) _ _ s
 refine Calls.spliced_cons (thn (ha pins s σ H _ I h) fun u s1 ⟨x,H1,I1,r1,q1⟩=>?_)
 exact thn (hr pos pins s1 σ H1 _ I1 q1) fun us s2 ⟨xs,H2,I2,r2,q2⟩=>⟨x :: xs,H2,I2,.cons r1 r2,q2⟩
def j7m (t:TA) : TE:=fun σ H Q=>t σ H fun xs H1=>xs.length ≤ sizeLine ∧ ∀ p,H1 p = none → Q (.ref p) (upd H1 p (.tup xs))
def j8g (t:TA) : TE:=fun σ H Q=>t σ H fun xs H1=>xs.length ≤ sizeLine ∧ ∀ p,H1 p = none → Q (.ref p) (upd H1 p (.lst xs))
theorem jm0 {x1} (h:PA X es t) : PE X (.Tuple es x1 pos) (j7m t):=by
 intro pins s σ H Q I hq
 refine wpAny_Tuple_spliced (thn (h pos pins s σ H _ I hq) fun us s1 ⟨xs,H1,I1,r,z,q⟩=>⟨by rw [← r.length]; exact z,?_⟩)
 have hf:H1 s1.heap.objs.size = none:=I1.hok.fresh (Nat.le_refl _)
 refine ⟨.ref s1.heap.objs.size,upd H1 s1.heap.objs.size (.tup xs),I1.laid (t':=s1.toks) (fun b u e=>Heap.get?_push_of_some _ e) (Nat.le_refl _) ?_,rfl,q _ hf⟩
 exact ⟨z,us,r,⟨_,Heap.get?_push_size _ rfl,rfl,_,rfl⟩⟩
theorem zk (h:PA X es t) : PE X (.List es pos) (j8g t):=by
 intro pins s σ H Q I hq
 refine wpAny_List_spliced (thn (h pos pins s σ H _ I hq) fun us s1 ⟨xs,H1,I1,r,z,q⟩=>⟨by rw [← r.length]; exact z,?_⟩)
 have hf:H1 s1.heap.objs.size = none:=I1.hok.fresh (Nat.le_refl _)
 refine ⟨.ref s1.heap.objs.size,upd H1 s1.heap.objs.size (.lst xs),I1.laid (t':=s1.toks) (fun b u e=>Heap.get?_push_of_some _ e) (Nat.le_refl _) ?_,rfl,q _ hf⟩
 exact ⟨z,us,0,r,Heap.get?_push_size _ rfl⟩
end
abbrev Sp:=List V → Hp → VK → XK → Prop
abbrev CXT:=List Env → Hp → Shared → XK → Value → Shared → Prop
structure j1x (P:Program) (w:World) (K:PySem.W.Frag) (mg:Str → Option Value) (base:Heap) (A:Around) (outer:List Env) (s:Shared) (H:Hp) : Prop where
 frames:A.frames = some outer
 mod:Mod K mg base
 bs : ∀ b o,base.get? b = some o → s.heap.get? b = some o ∧ H b = none
 bsz:base.objs.size ≤ s.heap.objs.size
 jt1:s.heap.FunFrames base outer
 frf : ∀ b ∈ frs outer,H b = none
 hok:HOk P w H s.heap
 bare:AllBare s.gens
def CE (outer:List Env) (P:Program) (w:World) (H:Hp) (s:Shared) (Q:VK) (u:Value) (s':Shared) : Prop:=
 ∃ v H',s'.os = s.os ∧ AllBare s'.gens ∧ Un (frs outer) [] H H' s.heap s'.heap ∧ HOk P w H' s'.heap ∧ RelV v u ∧ Q v H'
def CR (CX:CXT) (outer:List Env) (P:Program) (w:World) (H:Hp) (s:Shared) (Q:VK) (E:XK) (r:Result) (s':Shared) : Prop:=
 match r with
 | .ok (.ret u)=>CE outer P w H s Q u s'
 | .ok _=>False
 | .error e=>CX outer H s E e s'
structure yf (P:Program) (w:World) (K:PySem.W.Frag) (mg:Str → Option Value) (base:Heap) (CX:CXT) (k:Nat) (f:Addr) (fd:FuncData) (ps:List Str) (sp:Sp) : Prop where
 len : ∀ vs H Q E,sp vs H Q E → vs.length = ps.length
 run : ∀ (A:Around) (outer:List Env) (s:Shared) (H:Hp) (args:Args) (us:List Value) (vs:List V) (Q:VK) (E:XK),jfi k A → j1x P w K mg base A outer s H → BindsTo s fd args (ps.zip us) → Vals vs us → sp vs H Q E →
  codeAny (model P w) A (.call (.ref f) args) (CR CX outer P w H s Q E) s
theorem j1x.make {P:Program} {w:World} {K:PySem.W.Frag} {mg:Str → Option Value} {base:Heap} {A:Around} {outer:List Env} {s:Shared} {H:Hp} (e:j1x P w K mg base A outer s H) (C:Addr) (us:List Value) (kw:List (Str × Value)) :
  j1x P w K mg base (A.under (.builtin "type.__call__" ⟨.ref C :: us,kw⟩)) outer s H:=⟨by first | exact e.frames | (simpa [Around.under,Code.envs,Code.isFrame,pushEnvs] using e.frames),e.mod,e.bs,e.bsz,e.jt1,e.frf,e.hok,e.bare⟩
section
variable {X:Cx} {pins:List (Addr × Obj)} {σ : St} {H:Hp} {s s':Shared}
theorem Inv.j3k (I:Inv X pins σ H s) : j1x X.prog X.w X.K X.mg X.base X.A X.stack s H:=
 ⟨I.ok.frames,I.ok.mod,I.bs,Nat.le_trans I.ok.bsz I.sz,I.stack,I.jr0,I.hok,I.bare⟩
theorem Inv.after {Q:VK} {u:Value} (I:Inv X pins σ H s) (h:CE X.stack X.prog X.w H s Q u s') : EP X pins σ Q u s':=by
 obtain ⟨v,H',os,bare,un,hok,r,q⟩:=h
 obtain ⟨hh,g,d,t,os'⟩:=s'
 obtain rfl:os' = s.os:=os
 exact ⟨v,H',I.call (h':=hh) (g':=g) (d':=d) (t':=t) (ch:=[]) un hok bare (fun b z=>absurd z (by simp)),r,q⟩
end
def j4y (sp:Sp) (dvs:List V) (E:XK) (t:TA) : TE:=fun σ H Q=>t σ H fun vs H1=>sp (vs ++ dvs) H1 Q E
def j4i (C:Addr) (m:Str) (sp:Sp) (dvs:List V) (E:XK) (ta:TE) (t:TA) : TE:=fun σ H Q=>ta σ H fun x H1=>∃ a dx fs,x = .ref a ∧ H1 a = some (.ins C dx fs) ∧ fs.lookup m = none ∧
 t σ H1 fun vs H2=>sp (x :: (vs ++ dvs)) H2 Q E
def j55 (C:Addr) (sp:Sp) (dvs:List V) (E:XK) (t:TA) : TE:=fun σ H Q=>t σ H fun vs H1=>∀ x dx,H1 x = none → H1 dx = none → dx ≠ x →
 sp (.ref x :: (vs ++ dvs)) (upd (upd H1 dx (.own x)) x (.ins C dx [])) (fun v H2=>v = .non ∧ Q (.ref x) H2) E
def Binds (K:PySem.W.Frag) (fd:FuncData) (ps:List Str) (ds:List Value) : Prop:=
 ∀ (s:Shared) (us:List Value),K.In s.heap → (us ++ ds).length = ps.length → BindsTo s fd ⟨us,[]⟩ (ps.zip (us ++ ds))
theorem Binds.all {K:PySem.W.Frag} {fd:FuncData} {ps:List Str} (h : ∀ us:List Value,us.length = ps.length → bindArgs fd ⟨us,[]⟩ = pure (ps.zip us)) : Binds K fd ps []:=fun s us _ hl=>by
 rw [List.append_nil] at hl ⊢
 exact .of_eq (h us hl)
def Passes (CX:CXT) (X:Cx) (E:XK) : Prop:=∀ (pins:List (Addr × Obj)) (σ : St) (H:Hp) (s:Shared) (e:Value) (s':Shared),Inv X pins σ H s → CX X.stack H s E e s' → X.xe e s'
section
variable {X:Cx} {CX:CXT} {k:Nat} {f C:Addr} {fd:FuncData} {ps:List Str} {sp:Sp} {dvs:List V} {ds:List Value} {E:XK} {x m:Str} {p pos apos:Pos} {e o:Expr} {es:List Expr} {ta:TE} {t:TA}
theorem jvu {pins:List (Addr × Obj)} {σ : St} {H:Hp} {s:Shared} {Q:VK} {us:List Value} {vs:List V} (F:yf X.prog X.w X.K X.mg X.base CX k f fd ps sp) (hr:jfi k X.A) (hb:Binds X.K fd ps ds) (hd:Vals dvs ds) (hx:Passes CX X E)
  (I:Inv X pins σ H s) (r:Vals vs us) (h:sp (vs ++ dvs) H Q E) : wpAny (model X.prog X.w) X.A (call (.ref f) us) (EP X pins σ Q) X.xe s:=by
 have r2:Vals (vs ++ dvs) (us ++ ds):=r.append hd
 have hl:(us ++ ds).length = ps.length:=by rw [← r2.length]; exact F.len _ _ _ _ h
 refine wpAny_call (codeAny_mono (F.run X.A X.stack s H ⟨us,[]⟩ (us ++ ds) (vs ++ dvs) Q E hr I.j3k (hb s us I.kIn hl) r2 h) fun r s' hq=>?_)
 cases r with
 | error e=>exact hx pins σ H s e s' I hq
 | ok fl=>
  cases fl with
  | ret u=>exact I.after hq
  | next=>exact False.elim hq
  | brk=>exact False.elim hq
  | cont=>exact False.elim hq
theorem jq (F:yf X.prog X.w X.K X.mg X.base CX k f fd ps sp) (hr:jfi k X.A) (hg:Gl X x) (hm:X.mg x = some (.ref f)) (hk:PySem.W.keepIn X.K (.ref f) = true) (hb:Binds X.K fd ps ds) (hd:Vals dvs ds) (hx:Passes CX X E)
  (ha:PA X (e :: es) t) (hdb:(x == ("__debug__" : Str)) = false:=by decide) (he:starEach (e :: es) X.env = (false,eval e X.env) :: starEach es X.env:=by rfl) (hpl:(backTo pos (starEach es X.env)).any (·.1) = false:=by rfl) :
  PE X (.Call (.Name x p) (e :: es) [] pos) (j4y sp dvs E t):=by
 intro pins s σ H Q I h
 refine wpAny_Call_Name_kw (jhq I hg hm ?_ hdb)
 refine PySem.W.callWith_K (h₀:=X.base) I.ok.mod.kin hk (thn (ha pos pins s σ H _ I h) fun us s1 ⟨vs,H1,I1,r,q⟩=>⟨I1.kIn,?_⟩) he hpl
 exact jvu F hr hb hd hx I1 r q
theorem j6 {pl:Sem Bool} (he:PE X o ta) (c:Cls X.K C) (hm:Meth X.K C m f) (F:yf X.prog X.w X.K X.mg X.base CX k f fd ps sp) (hr:jfi k X.A) (hb:Binds X.K fd ps ds) (hd:Vals dvs ds) (hx:Passes CX X E) (ha:PA X (e :: es) t)
  (hst:starEach (e :: es) X.env = (false,eval e X.env) :: starEach es X.env:=by rfl) (hpl:(backTo pos (starEach es X.env)).any (·.1) = false:=by rfl)
  (ht:eval (.Call (.Attribute o m apos) (e :: es) [] pos) X.env = (do
   let ov ← eval o X.env
   standAt apos.atName
   let (f,first) ← holding [ov] (getMethod ov m pl)
   callWith pos f first (backTo pos (starEach (e :: es) X.env)) (backToKw pos (keywordEach [] X.env))):=by rfl) :
  PE X (.Call (.Attribute o m apos) (e :: es) [] pos) (j4i C m sp dvs E ta t):=by
 intro pins s σ H Q I h
 refine PySem.W.methodCall_KW (pl:=pl) (thn (he pins s σ H _ I h) fun u s1 ⟨x,H1,I1,rx,a,dx,fs,ex,ea,l,q⟩=>?_) ht
 subst ex
 obtain rfl:u = Value.ref a:=rx
 refine jib I1 ea c hm l ?_
 refine PySem.W.callWith_K (first:=[.ref a]) (h₀:=X.base) I.ok.mod.kin hm.kp (thn (ha pos pins s1 σ H1 _ I1 q) fun us s2 ⟨vs,H2,I2,r,q2⟩=>⟨I2.kIn,?_⟩) hst hpl
 exact jvu (us:=.ref a :: us) (vs:=.ref a :: vs) F hr hb hd hx I2 (.cons rfl r) q2
theorem gr {pl:Sem Bool} (he:PE X o ta) (c:Cls X.K C) (hm:Meth X.K C m f) (F:yf X.prog X.w X.K X.mg X.base CX k f fd ps sp) (hr:jfi k X.A) (hb:Binds X.K fd ps ds) (hd:Vals dvs ds) (hx:Passes CX X E)
  (ht:eval (.Call (.Attribute o m apos) [] [] pos) X.env = (do
   let ov ← eval o X.env
   standAt apos.atName
   let (f,first) ← holding [ov] (getMethod ov m pl)
   callWith pos f first (backTo pos (starEach [] X.env)) (backToKw pos (keywordEach [] X.env))):=by rfl) :
  PE X (.Call (.Attribute o m apos) [] [] pos) (j4i C m sp dvs E ta jz8):=by
 intro pins s σ H Q I h
 refine PySem.W.methodCall_KW (pl:=pl) (thn (he pins s σ H _ I h) fun u s1 ⟨x,H1,I1,rx,a,dx,fs,ex,ea,l,q⟩=>?_) ht
 subst ex
 obtain rfl:u = Value.ref a:=rx
 refine jib I1 ea c hm l ?_
 exact PySem.W.callWith_K0 (first:=[.ref a]) I1.kIn hm.kp (jvu (us:=[.ref a]) (vs:=[.ref a]) F hr hb hd hx I1 (.cons rfl .nil) q)
structure Mk (K:PySem.W.Frag) (C f:Addr) : Prop where
 makes:PySem.W.makesIn K C = true
 init:PySem.W.findIn K (.ref C) "__init__" = some (some (.ref f))
 fn:PySem.W.isFn K (.ref f) = true
 kp:PySem.W.keepIn K (.ref C) = true
theorem jzk {pins:List (Addr × Obj)} {σ : St} {H:Hp} {s:Shared} {Q:VK} {us:List Value} {vs:List V} (M:Mk X.K C f) (F:yf X.prog X.w X.K X.mg X.base CX k f fd ps sp) (hr:jfi (k + 1) X.A) (hb:Binds X.K fd ps ds) (hd:Vals dvs ds)
  (hx:Passes CX X E) (I:Inv X pins σ H s) (r:Vals vs us)
  (h : ∀ x dx,H x = none → H dx = none → dx ≠ x → sp (.ref x :: (vs ++ dvs)) (upd (upd H dx (.own x)) x (.ins C dx [])) (fun v H2=>v = .non ∧ Q (.ref x) H2) E) :
  wpAny (model X.prog X.w) X.A (call (.ref C) us) (EP X pins σ Q) X.xe s:=by
 have hq:=h (s.heap.objs.size + 1) s.heap.objs.size (I.hok.fresh (Nat.le_succ _)) (I.hok.fresh (Nat.le_refl _)) (Nat.ne_of_lt (Nat.lt_succ_self _))
 have I2:=Inv.made (C:=C) I
 have r2:Vals (V.ref (s.heap.objs.size + 1) :: (vs ++ dvs)) (Value.ref (s.heap.objs.size + 1) :: (us ++ ds)):=.cons rfl (r.append hd)
 have hl:(Value.ref (s.heap.objs.size + 1) :: us ++ ds).length = ps.length:=by
  have e:=r2.length
  rw [F.len _ _ _ _ hq] at e
  exact e.symm
 refine wpAny_call (jva (f:=f) I.kIn M.makes M.init (beq_iff_eq.mp M.fn) (codeAny_mono (F.run _ X.stack _ _ ⟨Value.ref (s.heap.objs.size + 1) :: us,[]⟩ (Value.ref (s.heap.objs.size + 1) :: (us ++ ds)) _ _ E (hr.make C us [])
  (I2.j3k.make C us []) (hb _ (Value.ref (s.heap.objs.size + 1) :: us) I2.kIn hl) r2 hq) fun r s' hq'=>?_))
 cases r with
 | error e=>exact hx pins σ _ _ e s' I2 hq'
 | ok fl=>
  cases fl with
  | ret u=>
   obtain ⟨v,H',I3,rv,ev,q3⟩:=I2.after hq'
   subst ev
   exact ⟨rv,⟨V.ref (s.heap.objs.size + 1),H',I3,rfl,q3⟩⟩
  | next=>exact False.elim hq'
  | brk=>exact False.elim hq'
  | cont=>exact False.elim hq'
theorem jw1 (M:Mk X.K C f) (F:yf X.prog X.w X.K X.mg X.base CX k f fd ps sp) (hr:jfi (k + 1) X.A) (hg:Gl X x) (hm:X.mg x = some (.ref C)) (hb:Binds X.K fd ps ds) (hd:Vals dvs ds) (hx:Passes CX X E)
  (ha:PA X (e :: es) t) (hdb:(x == ("__debug__" : Str)) = false:=by decide) (he:starEach (e :: es) X.env = (false,eval e X.env) :: starEach es X.env:=by rfl) (hpl:(backTo pos (starEach es X.env)).any (·.1) = false:=by rfl) :
  PE X (.Call (.Name x p) (e :: es) [] pos) (j55 C sp dvs E t):=by
 intro pins s σ H Q I h
 refine wpAny_Call_Name_kw (jhq I hg hm ?_ hdb)
 refine PySem.W.callWith_K (h₀:=X.base) I.ok.mod.kin M.kp (thn (ha pos pins s σ H _ I h) fun us s1 ⟨vs,H1,I1,r,q⟩=>⟨I1.kIn,?_⟩) he hpl
 exact jzk M F hr hb hd hx I1 r q
end
def PK (X:Cx) (kws:List Keyword) (t:TA) : Prop:=
 ∀ (pos:Pos) (pins:List (Addr × Obj)) (s:Shared) (σ : St) (H:Hp) (Q:List V → Hp → Prop),Inv X pins σ H s → t σ H Q → wpAny (model X.prog X.w) X.A (evalAll ((backToKw pos (keywordEach kws X.env)).map (·.2))) (AP X pins σ Q) X.xe s
section
variable {X:Cx} {CX:CXT} {k:Nat} {f C:Addr} {fd:FuncData} {ps ks:List Str} {sp:Sp} {E:XK} {x m:Str} {p pos apos kpos:Pos} {e o:Expr} {es:List Expr} {kws:List Keyword} {te ta:TE} {t tk:TA} {nm:Option Str}
theorem job:PK X [] jz8:=fun _ _ _ _ H Q I h=>wpAny_evalAll_nil ⟨[],H,I,.nil,h⟩
theorem jdc (ha:PE X e te) (hr:PK X kws t) : PK X (⟨nm,e,kpos⟩ :: kws) (vy te t):=by
 intro pos pins s σ H Q I h
 show wpAny _ _ (evalAll ((do let v ← eval e X.env; standAt pos; pure v) :: (backToKw pos (keywordEach kws X.env)).map (·.2))) _ _ s
 refine wpAny_evalAll_cons (wpAny_bind (thn (ha pins s σ H _ I h) fun u s1 ⟨x,H1,I1,r1,q1⟩=>wpAny_bind (wpAny_standAt (wpAny_pure ?_))))
 exact thn (hr pos pins s1 σ H1 _ I1 q1) fun us s2 ⟨xs,H2,I2,r2,q2⟩=>⟨x :: xs,H2,I2,.cons r1 r2,q2⟩
structure jf5 (K:PySem.W.Frag) (fd:FuncData) (ps ks:List Str) (g:List Value → List Value → List Value) (gV:List V → List V → List V) : Prop where
 to : ∀ (s:Shared) (us ws:List Value),K.In s.heap → (g us ws).length = ps.length → BindsTo s fd ⟨us,ks.zip ws⟩ (ps.zip (g us ws))
 rel : ∀ {vs:List V} {us:List Value} {zs:List V} {ws:List Value},Vals vs us → Vals zs ws → Vals (gV vs zs) (g us ws)
def j3v (sp:Sp) (gV:List V → List V → List V) (E:XK) (t tk:TA) : TE:=fun σ H Q=>t σ H fun vs H1=>tk σ H1 fun zs H2=>sp (gV vs zs) H2 Q E
variable {g:List Value → List Value → List Value} {gV:List V → List V → List V}
theorem j2l {pins:List (Addr × Obj)} {σ : St} {H:Hp} {s:Shared} {Q:VK} {us ws:List Value} {vs zs:List V} (F:yf X.prog X.w X.K X.mg X.base CX k f fd ps sp) (hr:jfi k X.A) (hb:jf5 X.K fd ps ks g gV) (hx:Passes CX X E)
  (I:Inv X pins σ H s) (r:Vals vs us) (rz:Vals zs ws) (h:sp (gV vs zs) H Q E) : wpAny (model X.prog X.w) X.A (call (.ref f) us (ks.zip ws)) (EP X pins σ Q) X.xe s:=by
 have r2:=hb.rel r rz
 have hl:(g us ws).length = ps.length:=by rw [← r2.length]; exact F.len _ _ _ _ h
 refine wpAny_call (codeAny_mono (F.run X.A X.stack s H ⟨us,ks.zip ws⟩ (g us ws) (gV vs zs) Q E hr I.j3k (hb.to s us ws I.kIn hl) r2 h) fun r s' hq=>?_)
 cases r with
 | error e=>exact hx pins σ H s e s' I hq
 | ok fl=>
  cases fl with
  | ret u=>exact I.after hq
  | next=>exact False.elim hq
  | brk=>exact False.elim hq
  | cont=>exact False.elim hq
theorem jic (F:yf X.prog X.w X.K X.mg X.base CX k f fd ps sp) (hr:jfi k X.A) (hg:Gl X x) (hm:X.mg x = some (.ref f)) (hk:PySem.W.keepIn X.K (.ref f) = true) (hb:jf5 X.K fd ps ks g gV) (hx:Passes CX X E)
  (ha:PA X (e :: es) t) (hkw:PK X kws tk) (hall:(backToKw pos (keywordEach kws X.env)).all (·.1.isSome) = true:=by rfl) (hks:(backToKw pos (keywordEach kws X.env)).filterMap (·.1) = ks:=by rfl)
  (hdb:(x == ("__debug__" : Str)) = false:=by decide) (he:starEach (e :: es) X.env = (false,eval e X.env) :: starEach es X.env:=by rfl)
  (hpl:((backTo pos (starEach (e :: es) X.env)).any (·.1) || (backToKw pos (keywordEach kws X.env)).any (·.1.isNone)) = false:=by rfl) :
  PE X (.Call (.Name x p) (e :: es) kws pos) (j3v sp gV E t tk):=by
 intro pins s σ H Q I h
 refine wpAny_Call_Name_kw (jhq I hg hm ?_ hdb)
 refine PySem.W.callWith_KW (h₀:=X.base) I.ok.mod.kin hk hall (thn (ha pos pins s σ H _ I h) fun us s1 ⟨vs,H1,I1,r,q⟩=>?_) hpl he
 refine thn (hkw pos pins s1 σ H1 _ I1 q) fun ws s2 ⟨zs,H2,I2,rz,q2⟩=>⟨I2.kIn,?_⟩
 rw [hks]
 exact j2l F hr hb hx I2 r rz q2
end
structure jo (N P:List Str) (sc:Scope) : Prop where
 kind:sc.kind = .function
 co:sc.isCoroutine = false
 gen:sc.isGenerator = false
 nd:N.Nodup
 pre:N.take P.length = P
 par : ∀ x ∈ P,sc.names.lookup x = some .local ∨ sc.names.lookup x = some .cell
 j31 : ∀ y ∈ sc.names,y.2 ≠ .free
theorem fsc {N P:List Str} {sc:Scope} (a:sc.kind = .function:=by rfl) (b:sc.isCoroutine = false:=by rfl) (c:sc.isGenerator = false:=by rfl) (d:N.Nodup:=by decide +kernel) (e:N.take P.length = P:=by rfl) (f : ∀ x ∈ P,sc.names.lookup x = some .local ∨ sc.names.lookup x = some .cell:=by decide +kernel) (g : ∀ y ∈ sc.names,y.2 ≠ .free:=by decide +kernel) : jo N P sc:=⟨a,b,c,d,e,f,g⟩
theorem js6 {kindOf:Str → Option NameKind} {x:Str} : ∀ {binds:List (Str × Value)} {m:Str → Option Value},(∀ v,(x,v) ∉ binds) → bindL kindOf binds m x = m x
 | [],_,_=>rfl
 | (n,v) :: r,m,h=>by
  unfold bindL
  rw [js6 fun w hw=>h w (List.mem_cons_of_mem _ hw)]
  split
  ·have:x ≠ n:=by rintro rfl; exact h v List.mem_cons_self
   simp [this]
  ·rfl
theorem jsa {kindOf:Str → Option NameKind} {x:Str} : ∀ {binds:List (Str × Value)} {m:Str → Option Value},(∀ v,(x,v) ∉ binds) → bindC kindOf binds m x = m x
 | [],_,_=>rfl
 | (n,v) :: r,m,h=>by
  unfold bindC
  rw [jsa fun w hw=>h w (List.mem_cons_of_mem _ hw)]
  split
  ·rfl
  ·have:x ≠ n:=by rintro rfl; exact h v List.mem_cons_self
   simp [this]
theorem jst {kindOf:Str → Option NameKind} {x:Str} {v:Value} : ∀ {P:List Str} {vs:List Value} {i:Nat} {m:Str → Option Value},P.Nodup → P[i]? = some x → vs[i]? = some v → kindOf x = some .local →
  bindL kindOf (P.zip vs) m x = some v
 | [],_,_,_,_,h,_,_=>by simp at h
 | _ :: _,[],_,_,_,_,h,_=>by simp at h
 | p :: P,w :: vs,0,m,nd,h1,h2,hk=>by
  simp at h1 h2; subst h1; subst h2
  show bindL kindOf ((p,w) :: P.zip vs) m p = _
  unfold bindL
  rw [js6 fun v hv=>(List.nodup_cons.mp nd).1 (List.of_mem_zip hv).1,if_pos hk]
  simp
 | p :: P,w :: vs,i + 1,m,nd,h1,h2,hk=>by
  show bindL kindOf ((p,w) :: P.zip vs) m x = _
  unfold bindL
  exact jst (i:=i) (List.nodup_cons.mp nd).2 (by simpa using h1) (by simpa using h2) hk
theorem jtf {kindOf:Str → Option NameKind} {x:Str} {v:Value} : ∀ {P:List Str} {vs:List Value} {i:Nat} {m:Str → Option Value},P.Nodup → P[i]? = some x → vs[i]? = some v → kindOf x ≠ some .local →
  bindC kindOf (P.zip vs) m x = some v
 | [],_,_,_,_,h,_,_=>by simp at h
 | _ :: _,[],_,_,_,_,h,_=>by simp at h
 | p :: P,w :: vs,0,m,nd,h1,h2,hk=>by
  simp at h1 h2; subst h1; subst h2
  show bindC kindOf ((p,w) :: P.zip vs) m p = _
  unfold bindC
  rw [jsa fun v hv=>(List.nodup_cons.mp nd).1 (List.of_mem_zip hv).1,if_neg hk]
  simp
 | p :: P,w :: vs,i + 1,m,nd,h1,h2,hk=>by
  show bindC kindOf ((p,w) :: P.zip vs) m x = _
  unfold bindC
  exact jtf (i:=i) (List.nodup_cons.mp nd).2 (by simpa using h1) (by simpa using h2) hk
def start (N:List Str) (vs:List V) : St:=vs.map some ++ List.replicate (N.length - vs.length) none
def js8 (CX:CXT) (P:Program) (w:World) (K:PySem.W.Frag) (mg:Str → Option Value) (base:Heap) (N:List Str) (qual:Str) (scope:Scope) (f:Addr) (cd:Value) (A:Around) (outer:List Env) (s:Shared) (H:Hp) (E:XK) : Cx where
 prog:=P
 w:=w
 K:=K
 mg:=mg
 base:=base
 A:=A.deeper (envOfC qual scope s.heap.objs.size f cd)
 N:=N
 s₀:=s
 H₀:=H
 env:=envOfC qual scope s.heap.objs.size f cd
 outer:=outer
 stack:=envOfC qual scope s.heap.objs.size f cd :: outer
 ex:=[]
 calm:=true
 fn:=fun _=>true
 pn:=[]
 xe:=fun e s'=>wpAny (model P w) (A.deeper (envOfC qual scope s.heap.objs.size f cd)) (leaving (envOfC qual scope s.heap.objs.size f cd) e) (fun _ s''=>CX outer H s E e s'') (fun e' s''=>CX outer H s E e' s'') s'
theorem ju4 {sc:Scope} {n:Nat} {x:Str} (h:sc.names.lookup x = some .cell) : ∃ c,(cellsFrom n sc.names []).lookup x = some c:=by
 have q:=PySem.W.cellsFrom_some sc.names n [] (.inl h)
 exact Option.isSome_iff_exists.mp q
theorem jyg {CX:CXT} {P:Program} {w:World} {K:PySem.W.Frag} {mg:Str → Option Value} {base:Heap} {N ps:List Str} {qual:Str} {scope:Scope} {f:Addr} {cd:Value} {A:Around} {outer:List Env} {s s1:Shared} {H:Hp} {E:XK} {us:List Value} {vs:List V}
  (S:jo N ps scope) (hd:A.handled = none) (e0:j1x P w K mg base A outer s H) (hl:vs.length = ps.length) (r:Vals vs us)
  (x:InCallC s s.heap.objs.size (bindL (envOfC qual scope s.heap.objs.size f cd).kindOf (ps.zip us) fun _=>none) (cellsFrom (s.heap.objs.size + 1) scope.names []) (bindC (envOfC qual scope s.heap.objs.size f cd).kindOf (ps.zip us) fun _=>none) s1) :
  Inv (js8 CX P w K mg base N qual scope f cd A outer s H E) [] (start N vs) H s1:=by
 have hpl:ps.length ≤ N.length:=by have:=congrArg List.length S.pre; rw [List.length_take] at this; omega
 obtain ⟨h1,tk,rfl,hk⟩:=x.done
 have noA : ∀ b:Addr,b ∉ (js8 CX P w K mg base N qual scope f cd A outer s H E).ex:=fun b z=>absurd (show b ∈ ([] : List Addr) from z) (by simp)
 refine ⟨⟨e0.mod,S.kind,rfl,rfl,Nat.le_refl _,fun y z c h1 h2=>?_,fun y hy=>?_,fun y c _ h=>?_,fun _=>hd,Around.frames_deeper e0.frames,.inr ⟨rfl,rfl⟩,fun b z=>absurd z (noA b),e0.bs,e0.bsz,fun b _ _=>noA b,fun b z=>absurd z (noA b),e0.jt1,e0.frf⟩,
  rfl,e0.bare,Un.kept hk,⟨_,x.toInCall.ns,fun i y v h1 h2 h3=>?_⟩,fun y c h=>⟨_,x.cell y c h⟩,e0.hok.fresh (Nat.le_refl _),fun y c h=>?_,fun p hp=>absurd (show p ∈ ([] : List (Addr × Obj)) from hp) (by simp),e0.hok.kept hk,?_⟩
 ·exact name_of_addr x.apart (PySem.mem_of_lookup h1) (PySem.mem_of_lookup h2)
 ·have hy:scope.names.lookup y = some .cell ∨ scope.names.lookup y = some .free:=hy
  rcases hy with hy | hy
  ·exact ju4 hy
  ·exact absurd rfl (S.j31 _ (PySem.mem_of_lookup hy))
 ·exact Nat.le_of_lt (x.above y c (PySem.mem_of_lookup h))
 ·have hi:i < vs.length:=by
   unfold start at h2
   by_cases hi:i < vs.length
   ·exact hi
   ·rw [List.getElem?_append_right (by simpa using hi)] at h2
    rw [List.getElem?_replicate] at h2
    split at h2 <;> cases h2
  have ha:vs[i]? = some v:=by
   unfold start at h2
   rw [List.getElem?_append_left (by simpa using hi),List.getElem?_map] at h2
   cases e:vs[i]? with
   | none=>rw [e] at h2; cases h2
   | some a=>rw [e] at h2; cases h2; rfl
  obtain ⟨u,hu,rv⟩:=r.get ha
  have hp:ps[i]? = some y:=by
   rw [← S.pre,List.getElem?_take_of_lt (by omega)]; exact h1
  have ndP:ps.Nodup:=by rw [← S.pre]; exact S.nd.sublist (List.take_sublist _ _)
  refine ⟨u,rv,?_⟩
  rcases S.par y (List.mem_of_getElem? hp) with k | k
  ·exact .inl ⟨k,jst ndP hp hu k⟩
  ·obtain ⟨c,e⟩:=ju4 (n:=s.heap.objs.size + 1) k
   refine .inr ⟨.inl k,c,e,?_⟩
   have q:=x.cell y c e
   rw [jtf ndP hp hu (by show scope.names.lookup y ≠ _; rw [k]; decide)] at q
   exact q
 ·exact e0.hok.fresh (Nat.le_of_lt (x.above y c (PySem.mem_of_lookup h)))
 ·unfold start
  show _ = N.length
  rw [List.length_append,List.length_map,List.length_replicate]
  omega
theorem j40 {CX:CXT} {P:Program} {w:World} {K:PySem.W.Frag} {mg:Str → Option Value} {base:Heap} {k:Nat} {f:Addr} {name qual:Str} {params:Arguments} {body:List Stmt} {scope:Scope} {dV kV doc pm cdv ct oc:Value} {an od:Option Addr}
  {osl:Array (Option Value)} {N ps:List Str} {sp:Sp} (lk:K.lookup f = some ⟨oc,od,.func (PySem.W.fnOf name qual params body scope dV kV doc pm an cdv ct),osl⟩) (hcd:PySem.W.codeIn K cdv qual = true) (S:jo N ps scope)
  (len : ∀ vs H Q E,sp vs H Q E → vs.length = ps.length)
  (hbody : ∀ (A:Around) (outer:List Env) (s:Shared) (H:Hp) (vs:List V) (Q:VK) (E:XK),jfi k (A.deeper (envOfC qual scope s.heap.objs.size f cdv)) → sp vs H Q E →
   ∃ t,PSs (js8 CX P w K mg base N qual scope f cdv A outer s H E) body t ∧ t { nx:=fun _ H'=>Q .non H',rt:=Q } (start N vs) H) :
  yf P w K mg base CX (k + 1) f (PySem.W.fnOf name qual params body scope dV kV doc pm an cdv ct) ps sp:=by
 refine ⟨len,fun A outer s H args us vs Q E hr e0 hb r hsp=>?_⟩
 have hl:=len _ _ _ _ hsp
 have KX:K.In s.heap:=e0.mod.kin.keeps fun b o e=>(e0.bs b o e).1
 have lim:s.heap.NoLimit:=e0.mod.nolimit.keeps fun b o e=>(e0.bs b o e).1
 have hkind : ∀ y ∈ ps.zip us,scope.names.lookup y.1 = some .local ∨ (scope.names.lookup y.1 = some .cell ∧ ((cellsFrom (s.heap.objs.size + 1) scope.names []).lookup y.1).isSome = true):=fun ⟨n,v⟩ hy=>by
  rcases S.par n (List.of_mem_zip hy).1 with q | q
  ·exact .inl q
  ·exact .inr ⟨q,PySem.W.cellsFrom_some _ _ _ (.inl q)⟩
 refine codeAny_call_function hr.depth (KX _ _ lk) rfl S.co S.gen rfl (PySem.W.codeRec_of KX hcd) (hb _ _ _ _ ?_)
 refine wpAny_newFunctionEnv_cells S.kind hkind fun env he s1 x=>?_
 subst he
 refine ⟨lim.keeps x.toInCall.keep,codeAny_func ?_⟩
 obtain ⟨t,ht,hq⟩:=hbody A outer s H vs Q E (hr.deeper _) hsp
 have I:Inv (js8 CX P w K mg base N qual scope f cdv A outer s H E) [] (start N vs) H s1:=jyg S hr.hd e0 hl r x
 refine wpAny_mono (ht [] s1 (start N vs) H _ I hq) (fun fl s' hs=>?_) fun e s' hs=>hs
 have fin : ∀ {σ':St} {H':Hp} {v:V} {u:Value},Inv (js8 CX P w K mg base N qual scope f cdv A outer s H E) [] σ' H' s' → RelV v u → Q v H' → CE outer P w H s Q u s':=
  fun {σ' H' v u} J rv q=>⟨v,H',J.os,J.bare,J.base,J.hok,rv,q⟩
 cases fl with
 | ret u=>
  obtain ⟨v,σ',H',J,rv,q⟩:=hs
  exact fin J rv q
 | next=>
  obtain ⟨σ',H',J,q⟩:=hs
  exact fin (v:=V.non) (u:=Value.none) J rfl q
 | brk=>
  obtain ⟨_,_,_,q⟩:=hs
  exact False.elim q
 | cont=>
  obtain ⟨_,_,_,q⟩:=hs
  exact False.elim q
end L2
namespace L2
open PySem PySem.Spec PyProof.Rows
section
variable {X:Cx} {x:Str} {p pos:Pos} {e:Expr} {es:List Expr} {t:TA} {id T:String} {r:List V → Hp → VK → Prop}
def tCB (r:List V → Hp → VK → Prop) (t:TA) : TE:=fun σ H Q=>t σ H fun vs H1=>r vs H1 Q
theorem jt (hc:jnm X (.builtin id) r) (hg:Gl X x) (hm:X.mg x = none) (hv:bootBuiltins x = some (.builtin id)) (ha:PA X (e :: es) t) (hn:x ≠ "__name__" := by decide) (hdb:(x == ("__debug__" : Str)) = false:=by decide)
  (he:starEach (e :: es) X.env = (false,eval e X.env) :: starEach es X.env:=by rfl) (hpl:(backTo pos (starEach es X.env)).any (·.1) = false:=by rfl) : PE X (.Call (.Name x p) (e :: es) [] pos) (tCB r t):=by
 intro pins s σ H Q I h
 refine wpAny_Call_Name_kw (ju7 I hg hm hv ?_ hn hdb)
 exact PyProof.Rows.callWith_builtin1 (thn (ha pos pins s σ H _ I h) fun us s1 ⟨vs,H1,I1,r1,q1⟩=>hc pins s1 σ H1 vs us Q I1 r1 q1) he hpl
theorem jc0 (hc:jnm X (.type T) r) (hg:Gl X x) (hm:X.mg x = none) (hv:bootBuiltins x = some (.type T)) (ha:PA X (e :: es) t) (hn:x ≠ "__name__" := by decide) (hdb:(x == ("__debug__" : Str)) = false:=by decide)
  (he:starEach (e :: es) X.env = (false,eval e X.env) :: starEach es X.env:=by rfl) (hpl:(backTo pos (starEach es X.env)).any (·.1) = false:=by rfl) : PE X (.Call (.Name x p) (e :: es) [] pos) (tCB r t):=by
 intro pins s σ H Q I h
 refine wpAny_Call_Name_kw (ju7 I hg hm hv ?_ hn hdb)
 exact PyProof.Rows.callWith_type1 (thn (ha pos pins s σ H _ I h) fun us s1 ⟨vs,H1,I1,r1,q1⟩=>hc pins s1 σ H1 vs us Q I1 r1 q1) he hpl
end
end L2
namespace HT
open PySem PyProof.Rows
def lexLt:List Int → List Int → Bool
 | [],[]=>false
 | [],_ :: _=>true
 | _ :: _,[]=>false
 | x :: xs,y :: ys=>if x = y then lexLt xs ys else decide (x < y)
theorem jid (x y:Int) (xs ys:List Int) : lexLt (x :: xs) (y :: ys) = if x = y then lexLt xs ys else decide (x < y):=rfl
section
open PySem.SeqAt
open PySem.AutoSeq1 (wpAny_loadPart')
open PySem.MeetsSeq PySem.MeetsSeq2 PySem.MeetsSeq3
end
section
variable {prog:Program} {w:World} {A:Around} {E:Value → Shared → Prop} {s:Shared}
end
end HT
namespace L2
open PySem PySem.Spec PyProof.Rows
theorem intsAre_of {ns:List Int} : ∀ {us:List Value},Vals (ns.map V.int) us → IntsAre us ns:=by
 induction ns with
 | nil=>intro us r; rw [List.map_nil] at r; cases r; exact .nil
 | cons n ns ih=>
  intro us r
  rw [List.map_cons] at r
  cases r with
  | cons r1 r2=>
   obtain ⟨t,e⟩:=r1
   subst e
   exact .cons n t (ih r2)
section
variable {X:Cx} {e:Expr} {te:TE} {lo hi:Option Expr} {tl th:TO} {pos p2:Pos}
end
end L2
namespace L2
open PySem PySem.Spec PyProof.Rows
def ixN (n:Nat) (i:Int) : Option Nat:=if 0 ≤ i then (if i < n then some i.toNat else none) else if -(n:Int) ≤ i then some (i + n).toNat else none
def atI {α : Type} (xs:List α) (i:Int) : Option α:=(ixN xs.length i).bind fun j=>xs[j]?
theorem jx3 {n:Nat} {i:Int} {j:Nat} (h:ixN n i = some j) : seqIndex? i n = some j ∧ j < n ∧ -(n:Int) ≤ i ∧ i < n:=by
 unfold ixN at h
 by_cases h0 : 0 ≤ i
 ·rw [if_pos h0] at h
  by_cases h1:i < n
  ·rw [if_pos h1] at h
   have e:i.toNat = j:=Option.some.inj h
   exact ⟨by rw [seqIndex_of h0 h1,e],by omega,by omega,h1⟩
  ·rw [if_neg h1] at h; cases h
 ·rw [if_neg h0] at h
  by_cases h1 : -(n:Int) ≤ i
  ·rw [if_pos h1] at h
   have e:(i + n).toNat = j:=Option.some.inj h
   exact ⟨by rw [seqIndex_neg (by omega) h1,e],by omega,h1,by omega⟩
  ·rw [if_neg h1] at h; cases h
theorem jw4 {α : Type} {xs:List α} {i:Int} {v : α} (h:atI xs i = some v) : ∃ j,seqIndex? i xs.length = some j ∧ xs[j]? = some v ∧ j < xs.length ∧ -(xs.length:Int) ≤ i ∧ i < xs.length:=by
 unfold atI at h
 cases e:ixN xs.length i with
 | none=>rw [e] at h; cases h
 | some j=>
  rw [e] at h
  obtain ⟨h1,h2,h3,h4⟩:=jx3 e
  exact ⟨j,h1,h,h2,h3,h4⟩
def j3b (b:Expr) : Prop:=∀ o i,subscripted b false o i = operate [o,i] (getItem o i)
def IxR (X:Cx) (r:R2) : Prop:=
 ∀ (value slice:Expr) (pins:List (Addr × Obj)) (s:Shared) (σ : St) (H:Hp) (x y:V) (v u:Value) (Q:VK),Inv X pins σ H s → RelV x v → RelV y u → r x y H Q →
  subscripted slice false v u = operate [v,u] (getItem v u) → wpAny (model X.prog X.w) X.A (subscriptTail value slice v u) (EP X pins σ Q) X.xe s
def MtR (X:Cx) (id:String) (r:V → List V → Hp → VK → Prop) : Prop:=
 ∀ (pins:List (Addr × Obj)) (s:Shared) (σ : St) (H:Hp) (x:V) (xs:List V) (v:Value) (us:List Value) (Q:VK),Inv X pins σ H s → RelV x v → Vals xs us → r x xs H Q →
  wpAny (model X.prog X.w) X.A (call (.builtin id) (v :: us)) (EP X pins σ Q) X.xe s
section
variable {X:Cx} {a b:Expr} {ta tb:TE} {pos:Pos}
theorem jai {r:R2} (hr:IxR X r) (ha:PE X a ta) (hb:PE X b tb) (hs:j3b b) : PE X (.Subscript a b pos) (tOp r ta tb):=by
 intro pins s σ H Q I h
 exact Subscript_ (j5r ha hb I h fun v u s2 x y H2 I2 rx ry q=>hr a b pins s2 σ H2 x y v u Q I2 rx ry q (hs _ _))
def j8q (K:PySem.W.Frag) : R2:=fun x y H Q=>∃ p xs i v,x = .ref p ∧ y = .int i ∧ SqL K H p xs ∧ atI xs i = some v ∧ Q v H
def j7d (K:PySem.W.Frag) : R2:=fun x y H Q=>∃ p xs i v,x = .ref p ∧ y = .int i ∧ SqT K H p xs ∧ atI xs i = some v ∧ Q v H
theorem gc:IxR X (j8q X.K):=by
 intro value slice pins s σ H x y v u Q I rx ry h hs
 obtain ⟨p,xs,i,z,rfl,rfl,hq,he,q⟩:=h
 cases rx
 obtain ⟨t,rfl⟩:=ry
 obtain ⟨its,r,pl,hz⟩:=I.list hq
 obtain ⟨j,h1,h2,h3,h4,h5⟩:=jw4 he
 obtain ⟨w,ew,rw'⟩:=r.get h2
 have hl:=r.length
 have hn:=jpw
 have fin:EP X pins σ Q w s:=⟨z,H,I,rw',q⟩
 by_cases h0 : 0 ≤ i
 ·have hj:i.toNat = j:=by
   rw [seqIndex_of h0 h5] at h1
   exact Option.some.inj h1
  exact item_listR pl.isList h0 (by omega) (by rw [hj]; simpa using ew) fin hs
 ·have hj:(i + (its.toArray.size:Int)).toNat = j:=by
   rw [seqIndex_neg (by omega) h4] at h1
   rw [List.size_toArray,← hl]
   exact Option.some.inj h1
  exact subscriptTail_builtinR (x:=w) pl.isList.typeIs slot_list_getitem.lookup
   (wpAny_getItem_list_neg (Q:=fun r s'=>r = w ∧ EP X pins σ Q r s') pl.isList (by omega) (by rw [List.size_toArray] <;> omega) (by omega) (by rw [hj]; simpa using ew) ⟨rfl,fin⟩) hs
theorem ji2:IxR X (j7d X.K):=by
 intro value slice pins s σ H x y v u Q I rx ry h hs
 obtain ⟨p,xs,i,z,rfl,rfl,hq,he,q⟩:=h
 cases rx
 obtain ⟨t,rfl⟩:=ry
 obtain ⟨its,r,pl,hz⟩:=I.tuple hq
 obtain ⟨j,h1,h2,h3,h4,h5⟩:=jw4 he
 obtain ⟨w,ew,rw'⟩:=r.get h2
 have hl:=r.length
 have hn:=jpw
 have fin:EP X pins σ Q w s:=⟨z,H,I,rw',q⟩
 exact subscriptTail_builtinR (x:=w) pl.typeIs slot_tuple_getitem.lookup
  (getItem_tuple (j:=j) (Q:=fun r s'=>r = w ∧ EP X pins σ Q r s') pl (by omega) (by omega) (by rw [List.size_toArray,← hl]; exact h1) (by simpa using ew) ⟨rfl,fin⟩) hs
theorem jwt (its:List Value) (n j:Nat) (u:Value) : Obj.mapSeq (·.setIfInBounds j u) { cls:=.type "list",data:=.seq its.toArray n } = { cls:=.type "list",data:=.seq (its.set j u).toArray n }:=by
 simp [Obj.mapSeq]
theorem Inv.lst {pins:List (Addr × Obj)} {σ : St} {H:Hp} {s:Shared} {p:Addr} {xs:List V} (I:Inv X pins σ H s) (h:H p = some (.lst xs)) :
  ∃ (its:List Value) (n:Nat),Vals xs its ∧ s.heap.get? p = some { cls:=.type "list",data:=.seq its.toArray n } ∧ xs.length ≤ sizeLine:=by
 obtain ⟨z,its,n,r,e⟩:=I.hok p _ h
 exact ⟨its,n,r,e,z⟩
theorem Inv.j3t {pins:List (Addr × Obj)} {σ : St} {H:Hp} {s:Shared} {p:Addr} {xs ys:List V} {its its':List Value} {n n':Nat} {f:Obj → Obj} (I:Inv X pins σ H s) (h:H p = some (.lst xs))
  (ho:s.heap.get? p = some { cls:=.type "list",data:=.seq its.toArray n }) (hf:f { cls:=.type "list",data:=.seq its.toArray n } = { cls:=.type "list",data:=.seq its'.toArray n' }) (r:Vals ys its') (hz:ys.length ≤ sizeLine) (t:Nat) :
  Inv X pins σ (upd H p (.lst ys)) { s with heap:=s.heap.update p f,toks:=t }:=by
 have e:(s.heap.update p f).get? p = some { cls:=.type "list",data:=.seq its'.toArray n' }:=by
  rw [Heap.get?_update_self f ho (by rw [hf] <;> rfl),hf]
 refine I.write (x:=p) (e:=p) (by rw [h]; trivial) (.inl rfl) (fun b u hb q=>(Heap.get?_update_other _ _ (Ne.symm hb)).trans q) ⟨_,e⟩ ?_
 exact ⟨hz,its',n',r,e⟩
def j6w:V → V → V → Hp → (Hp → Prop) → Prop:=fun o i v H Q=>∃ p xs k j,o = .ref p ∧ i = .int k ∧ H p = some (.lst xs) ∧ ixN xs.length k = some j ∧ Q (upd H p (.lst (xs.set j v)))
theorem set_list:j6l X j6w:=by
 intro pins s σ H o i v ov iv u Q I ro ri rv h
 obtain ⟨p,xs,k,j,rfl,rfl,hp,hj,q⟩:=h
 cases ro
 obtain ⟨t,rfl⟩:=ri
 obtain ⟨its,n,r,ho,hz⟩:=I.lst hp
 obtain ⟨h1,h2,h3,h4⟩:=jx3 hj
 have hl:=r.length
 have hn:=jpw
 have I':Inv X pins σ (upd H p (.lst (xs.set j v))) { s with heap:=s.heap.update p (Obj.mapSeq (·.setIfInBounds j u)) }:=
  I.j3t hp ho (jwt its n j u) (r.set rv j) (by rw [List.length_set]; exact hz) s.toks
 by_cases h0 : 0 ≤ k
 ·have hk:k.toNat = j:=by
   rw [seqIndex_of h0 h4] at h1
   exact Option.some.inj h1
  exact PySem.W.ki_setAt ho h0 (by omega) (by rw [List.size_toArray,← hl]; exact h4) (by rw [hk]; exact ⟨_,I',q⟩)
 ·have hk:(k + (its.toArray.size:Int)).toNat = j:=by
   rw [seqIndex_neg (by omega) h3] at h1
   rw [List.size_toArray,← hl]
   exact Option.some.inj h1
  exact PySem.W.ki_setBack ho (by omega) (by rw [List.size_toArray,← hl]; exact h3) (by omega) (by rw [hk]; exact ⟨_,I',q⟩)
def jq1:V → Bool
 | .non=>true
 | .bl _=>true
 | .int _=>true
 | .str _=>true
 | _=>false
def eqV:V → V → Bool
 | .non,.non=>true
 | .bl a,.bl b=>a == b
 | .bl a,.int b=>(if a then 1 else 0) == b
 | .int a,.bl b=>a == (if b then 1 else 0)
 | .int a,.int b=>a == b
 | .str a,.str b=>a == b
 | _,_=>false
theorem j5h {A:Around} {s:Shared} {y x:V} {u v:Value} (ry:RelV y u) (rx:RelV x v) (fy:jq1 y = true) (fx:jq1 x = true) : SeqAt.EqAt A s u v (eqV y x):=by
 cases y with
 | non=>
  cases ry
  cases x with
  | non=>cases rx; exact SeqAt.EqAt.same _
  | bl b=>cases rx; exact SeqAt.EqAt.none_bool b
  | int b=>obtain ⟨t,rfl⟩:=rx; exact SeqAt.EqAt.none_int b t
  | str b=>obtain ⟨t,rfl⟩:=rx; exact SeqAt.EqAt.none_str b t
  | _=>exact absurd (show false = true from fx) Bool.false_ne_true
 | bl a=>
  cases ry
  cases x with
  | non=>cases rx; exact SeqAt.EqAt.bool_none a
  | bl b=>cases rx; exact SeqAt.EqAt.bool_bool a b
  | int b=>obtain ⟨t,rfl⟩:=rx; exact SeqAt.EqAt.bool_int a b t
  | str b=>obtain ⟨t,rfl⟩:=rx; exact SeqAt.EqAt.bool_str a b t
  | _=>exact absurd (show false = true from fx) Bool.false_ne_true
 | int a=>
  obtain ⟨t',rfl⟩:=ry
  cases x with
  | non=>cases rx; exact SeqAt.EqAt.int_none a t'
  | bl b=>cases rx; exact SeqAt.EqAt.int_bool a t' b
  | int b=>obtain ⟨t,rfl⟩:=rx; exact SeqAt.EqAt.int_int a t' b t
  | str b=>obtain ⟨t,rfl⟩:=rx; exact SeqAt.EqAt.int_str a t' b t
  | _=>exact absurd (show false = true from fx) Bool.false_ne_true
 | str a=>
  obtain ⟨t',rfl⟩:=ry
  cases x with
  | non=>cases rx; exact SeqAt.EqAt.str_none a t'
  | bl b=>cases rx; exact SeqAt.EqAt.str_bool a t' b
  | int b=>obtain ⟨t,rfl⟩:=rx; exact SeqAt.EqAt.str_int a t' b t
  | str b=>obtain ⟨t,rfl⟩:=rx; exact SeqAt.EqAt.str_str a t' b t
  | _=>exact absurd (show false = true from fx) Bool.false_ne_true
 | _=>exact absurd (show false = true from fy) Bool.false_ne_true
def eqU (x:V) (u:Value) : Bool:=match u with
 | .none=>eqV .non x
 | .bool b=>eqV (.bl b) x
 | .int i _=>eqV (.int i) x
 | .str z _=>eqV (.str z) x
 | _=>false
theorem j1n {x y:V} {u:Value} (r:RelV y u) (f:jq1 y = true) : eqU x u = eqV y x:=by
 cases y with
 | non=>cases r; rfl
 | bl b=>cases r; rfl
 | int i=>obtain ⟨t,rfl⟩:=r; rfl
 | str z=>obtain ⟨t,rfl⟩:=r; rfl
 | _=>exact absurd (show false = true from f) Bool.false_ne_true
theorem jot {x:V} : ∀ {xs:List V} {us:List Value},Vals xs us → xs.all jq1 = true → us.any (eqU x) = xs.any fun y=>eqV y x
 | _,_,.nil,_=>rfl
 | y :: xs,u :: us,.cons r t,f=>by
  rw [List.all_cons,Bool.and_eq_true] at f
  rw [List.any_cons,List.any_cons,j1n r f.1,jot t f.2]
theorem jla {A:Around} {s:Shared} {x:V} {v:Value} (rx:RelV x v) (fx:jq1 x = true) : ∀ {xs:List V} {us:List Value},Vals xs us → xs.all jq1 = true → ∀ u ∈ us,SeqAt.EqAt A s u v (eqU x u)
 | _,_,.nil,_=>fun u hu=>by cases hu
 | y :: xs,u :: us,.cons r t,f=>fun u' hu=>by
  rw [List.all_cons,Bool.and_eq_true] at f
  rcases List.mem_cons.mp hu with rfl | hu
  ·rw [j1n r f.1]; exact j5h r rx f.1 fx
  ·exact jla rx fx t f.2 u' hu
def inV (x:V) (xs:List V) : Bool:=xs.any fun y=>eqV y x
def rIn (K:PySem.W.Frag) (neg:Bool) : R2:=fun x y H Q=>∃ p xs,y = .ref p ∧ (SqL K H p xs ∨ SqT K H p xs) ∧ jq1 x = true ∧ xs.all jq1 = true ∧ Q (.bl (if neg then !inV x xs else inV x xs)) H
theorem js0:OpR X (compareOp .In) (rIn X.K false):=by
 intro pins s σ H x y v u Q I rx ry h
 obtain ⟨p,xs,rfl,hq,fx,fs,q⟩:=h
 cases ry
 rcases hq with hq | hq
 ·obtain ⟨its,r,pl,hz⟩:=I.list hq
  refine SeqAt.in_listAt (eqU x) pl.isList (fun w hw=>jla rx fx r fs w (by simpa using hw)) ⟨.bl _,H,I,rfl,?_⟩
  rw [show its.toArray.any (eqU x) = its.any (eqU x) by simp,jot r fs]
  exact q
 ·obtain ⟨its,r,pl,hz⟩:=I.tuple hq
  refine SeqAt.in_tupleAt (eqU x) pl (fun w hw=>jla rx fx r fs w (by simpa using hw)) ⟨.bl _,H,I,rfl,?_⟩
  rw [show its.toArray.any (eqU x) = its.any (eqU x) by simp,jot r fs]
  exact q
theorem jdp:OpR X (compareOp .NotIn) (rIn X.K true):=by
 intro pins s σ H x y v u Q I rx ry h
 obtain ⟨p,xs,rfl,hq,fx,fs,q⟩:=h
 cases ry
 rcases hq with hq | hq
 ·obtain ⟨its,r,pl,hz⟩:=I.list hq
  refine SeqAt.notIn_listAt (eqU x) pl.isList (fun w hw=>jla rx fx r fs w (by simpa using hw)) ⟨.bl _,H,I,rfl,?_⟩
  rw [show its.toArray.any (eqU x) = its.any (eqU x) by simp,jot r fs]
  exact q
 ·obtain ⟨its,r,pl,hz⟩:=I.tuple hq
  refine SeqAt.notIn_tupleAt (eqU x) pl (fun w hw=>jla rx fx r fs w (by simpa using hw)) ⟨.bl _,H,I,rfl,?_⟩
  rw [show its.toArray.any (eqU x) = its.any (eqU x) by simp,jot r fs]
  exact q
theorem jz:jnm X (.builtin "len") (fun xs H Q=>∃ p ys,xs = [.ref p] ∧ (SqL X.K H p ys ∨ SqT X.K H p ys) ∧ Q (.int ys.length) H):=by
 intro pins s σ H xs us Q I r h
 obtain ⟨p,ys,rfl,hq,q⟩:=h
 obtain ⟨u,rfl,rx⟩:=vals1 r
 cases rx
 have hn:=jpw
 rcases hq with hq | hq
 ·obtain ⟨its,r',pl,hz⟩:=I.list hq
  have hlen:=r'.length
  exact Calls.call_len_list pl.isList (by simp only [List.size_toArray] <;> omega) ⟨.int ys.length,H,I.tok _,⟨s.toks + 1,by rw [List.size_toArray,hlen]⟩,q⟩
 ·obtain ⟨its,r',pl,hz⟩:=I.tuple hq
  have hlen:=r'.length
  exact len_tuple pl (by simp only [List.size_toArray] <;> omega) ⟨.int ys.length,H,I.tok _,⟨s.toks + 1,by rw [List.size_toArray,hlen]⟩,q⟩
theorem vo:jnm X (.type "list") (fun xs H Q=>∃ p ys,xs = [.ref p] ∧ (SqL X.K H p ys ∨ SqT X.K H p ys) ∧ ∀ l,H l = none → Q (.ref l) (upd H l (.lst ys))):=by
 intro pins s σ H xs us Q I r h
 obtain ⟨p,ys,rfl,hq,q⟩:=h
 obtain ⟨u,rfl,rx⟩:=vals1 r
 cases rx
 have fin : ∀ (its:List Value),Vals ys its → ys.length ≤ sizeLine → ∀ (h':Heap) (c':Nat),(∀ b o',s.heap.get? b = some o' → h'.get? b = some o') →
   h'.get? s.heap.objs.size = some { cls:=.type "list",dict:=none,data:=.seq its.toArray c',slots:=#[] } → EP X pins σ Q (.ref s.heap.objs.size) { s with heap:=h' }:=fun its r' hz h' c' kp e=>
  ⟨.ref s.heap.objs.size,_,I.laid (t':=s.toks) kp (Nat.le_refl _) (show we X.prog X.w _ h' _ (.lst ys) from ⟨hz,its,c',r',e⟩),rfl,q _ (I.hok.fresh (Nat.le_refl _))⟩
 rcases hq with hq | hq
 ·obtain ⟨its,r',pl,hz⟩:=I.list hq
  have hlen:=r'.length
  obtain ⟨o,ho,hc,n,hd⟩:=pl.isList
  exact call_list_seq p (.inl rfl) ho hc hd (fun h' c' kp e=>fin its r' hz h' c' kp e) (by simp only [List.size_toArray] <;> omega)
 ·obtain ⟨its,r',pl,hz⟩:=I.tuple hq
  have hlen:=r'.length
  obtain ⟨o,ho,hc,n,hd⟩:=pl
  exact call_list_seq p (.inr rfl) ho hc hd (fun h' c' kp e=>fin its r' hz h' c' kp e) (by simp only [List.size_toArray] <;> omega)
def tyV (K:PySem.W.Frag) (T:String) (x:V) (H:Hp) : Prop:=match x with
 | .str _=>T = "str"
 | .int _=>T = "int"
 | .ref p=>(T = "list" ∧ ∃ xs,SqL K H p xs) ∨ (T = "tuple" ∧ ∃ o,K.lookup p = some o ∧ o.cls = .type "tuple" ∧ o.dict = none) ∨
   (T = "dict" ∧ ((∃ kvs,H p = some (.dK kvs)) ∨ ∃ kvs,H p = some (.dT kvs))) ∨ (T = "set" ∧ ∃ S n,H p = some (.set S n))
 | _=>False
theorem j09 {pins:List (Addr × Obj)} {σ : St} {H:Hp} {s:Shared} {T:String} {x:V} {v:Value} (I:Inv X pins σ H s) (r:RelV x v) (ty:tyV X.K T x H) :
  s.TypeIs v T ∧ ∀ a,v = .ref a → ∃ ob,s.heap.get? a = some ob ∧ ob.dict = none:=by
 cases x with
 | str z=>
  obtain ⟨t,rfl⟩:=r
  cases (show T = "str" from ty)
  exact ⟨typeIs_str s z t,fun _ e=>nomatch e⟩
 | int i=>
  obtain ⟨t,rfl⟩:=r
  cases (show T = "int" from ty)
  exact ⟨typeIs_int s i t,fun _ e=>nomatch e⟩
 | ref p =>
  cases r
  rcases ty with ⟨rfl,xs,hq⟩ | ⟨rfl,o,hk,hc,hd⟩ | ⟨rfl,hk⟩ | ⟨rfl,S,n,hk⟩
  ·obtain ⟨its,_,pl,_⟩:=I.list hq
   refine ⟨pl.isList.typeIs,fun a e=>?_⟩
   cases e
   obtain ⟨o,n,e,c,hd,_⟩:=pl
   exact ⟨o,e,hd⟩
  ·refine ⟨⟨o,I.kIn p o hk,hc⟩,fun a e=>?_⟩
   cases e
   exact ⟨o,I.kIn _ o hk,hd⟩
  ·have z : ∃ o,s.heap.get? p = some o ∧ o.ExactDict:=by
    rcases hk with ⟨kvs,hk⟩ | ⟨kvs,hk⟩
    ·obtain ⟨_,_,_,_,o,_,_,e,ex,_⟩:=I.hok p _ hk
     exact ⟨o,e,ex⟩
    ·obtain ⟨_,_,_,_,o,_,_,e,ex,_⟩:=I.hok p _ hk
     exact ⟨o,e,ex⟩
   obtain ⟨o,e,ex⟩:=z
   refine ⟨⟨o,e,ex.1⟩,fun a e2=>?_⟩
   cases e2
   exact ⟨o,e,ex.2.1⟩
  ·obtain ⟨o,_,_,_,e,ex,_⟩:=I.hok p _ hk
   refine ⟨⟨o,e,ex.1⟩,fun a e2=>?_⟩
   cases e2
   exact ⟨o,e,ex.2.1⟩
 | _=>exact False.elim ty
def j8p (K:PySem.W.Frag) (T:String) (r:V → List V → Hp → VK → Prop) (to:TE) : TE:=fun σ H Q=>to σ H fun x H1=>tyV K T x H1 ∧ r x [] H1 Q
def tBM (K:PySem.W.Frag) (T:String) (r:V → List V → Hp → VK → Prop) (to:TE) (t:TA) : TE:=fun σ H Q=>to σ H fun x H1=>tyV K T x H1 ∧ t σ H1 fun xs H2=>r x xs H2 Q
variable {o e:Expr} {es:List Expr} {to:TE} {t:TA} {name:Str} {apos cpos:Pos} {T id:String} {r:V → List V → Hp → VK → Prop}
theorem j5i (pa:PlainAttrs T) (slot:Slot T name id) (hty:typeOf (.builtin id) = pure (.type "method_descriptor")) (hm:MtR X id r) (ho:PE X o to)
  (hbase:attributeBase o name X.env (eval o X.env) = eval o X.env:=by rfl) (hline:(apos.endLine == cpos.line) = true:=by rfl) : PE X (.Call (.Attribute o name apos) [] [] cpos) (j8p X.K T r to):=by
 intro pins s σ H Q I h
 refine wpAny_Call_method0_late hbase hline (thn (ho pins s σ H _ I h) fun v s1 ⟨x,H1,I1,r1,ty,q1⟩=>?_)
 obtain ⟨h1,h2⟩:=j09 I1 r1 ty
 exact ⟨T,id,pa,slot,hty,h1,h2,Calls.callWith_builtin rfl (PySem.evalArgs_none (hm pins s1 σ H1 x [] v [] Q I1 r1 .nil q1))⟩
theorem jj0 (pa:PlainAttrs T) (slot:Slot T name id) (hty:typeOf (.builtin id) = pure (.type "method_descriptor")) (hm:MtR X id r) (ho:PE X o to) (ha:PA X (e :: es) t)
  (hbase:attributeBase o name X.env (eval o X.env) = eval o X.env:=by rfl)
  (hfew:((backTo cpos (starEach (e :: es) X.env)).all (fun x=>!x.1) && (backToKw cpos (keywordEach [] X.env)).all (fun x=>x.1.isSome)
   && decide ((e :: es).length + ([] : List Keyword).length + (if ([] : List Keyword).isEmpty then 0 else 1) < 30)) = true:=by rfl)
  (hline:(apos.endLine == cpos.line) = true:=by rfl) (hs:starEach (e :: es) X.env = (false,eval e X.env) :: starEach es X.env:=by rfl) (hplain:(backTo cpos (starEach es X.env)).any (·.1) = false:=by rfl) :
  PE X (.Call (.Attribute o name apos) (e :: es) [] cpos) (tBM X.K T r to t):=by
 intro pins s σ H Q I h
 refine wpAny_Call_method_late hbase hfew hline rfl (thn (ho pins s σ H _ I h) fun v s1 ⟨x,H1,I1,r1,ty,q1⟩=>?_)
 obtain ⟨h1,h2⟩:=j09 I1 r1 ty
 refine ⟨T,id,pa,slot,hty,h1,h2,?_⟩
 have hA:=ha cpos pins s1 σ H1 _ I1 q1
 rw [hs] at hA ⊢
 refine Calls.callWith_builtin (by show (false || (backTo cpos (starEach es X.env)).any (·.1)) = false; rw [hplain] <;> rfl) (Calls.evalArgs_plain ?_)
 exact thn hA fun us s2 ⟨vs,H2,I2,r2,q2⟩=>hm pins s2 σ H2 x vs v us Q I2 r1 r2 q2
end
end L2
namespace L2
open PySem PySem.Spec PyProof.Rows
def MtM (X:Cx) (id:String) (r:V → List V → Hp → VK → Prop) : Prop:=
 ∀ (pins:List (Addr × Obj)) (s:Shared) (σ : St) (H:Hp) (x:V) (xs:List V) (v:Value) (us:List Value) (Q:VK),Inv X pins σ H s → RelV x v → Vals xs us → r x xs H Q →
  wpAny (model X.prog X.w) X.A (call (.builtin id) (v :: us)) (EP X pins σ Q) X.xe s
theorem Vals.one : ∀ {x:V} {us:List Value},Vals [x] us → ∃ u,us = [u] ∧ RelV x u
 | _,_,.cons r .nil=>⟨_,rfl,r⟩
theorem Vals.eraseIdx : ∀ {xs:List V} {us:List Value} (i:Nat),Vals xs us → Vals (xs.eraseIdx i) (us.eraseIdx i)
 | _,_,_,.nil=>.nil
 | _,_,0,.cons _ t=>t
 | _,_,i + 1,.cons r t=>.cons r (Vals.eraseIdx i t)
theorem Vals.rep {xs:List V} {us:List Value} (h:Vals xs us) : ∀ k:Nat,Vals (List.replicate k xs).flatten (List.replicate k us).flatten
 | 0=>.nil
 | k + 1=>by
  rw [List.replicate_succ,List.replicate_succ,List.flatten_cons,List.flatten_cons]
  exact Vals.append h (Vals.rep h k)
theorem jsn {α : Type} : ∀ (l:List α) (i:Nat),(l.eraseIdx i).length ≤ l.length
 | [],_=>Nat.le_refl _
 | _ :: _,0=>Nat.le_succ _
 | _ :: r,i + 1=>Nat.succ_le_succ (jsn r i)
theorem foldl_rep (its:List Value) : ∀ (k:Nat) (acc:List Value),
  List.foldl (fun x1 x2=>x1 ++ x2) acc.toArray (List.replicate k its.toArray) = (acc ++ (List.replicate k its).flatten).toArray
 | 0,acc=>by simp
 | k + 1,acc=>by
  have e:acc.toArray ++ its.toArray = (acc ++ its).toArray:=by simp
  have e2:(acc ++ its) ++ (List.replicate k its).flatten = acc ++ (List.replicate (k + 1) its).flatten:=by
   rw [List.replicate_succ,List.flatten_cons,List.append_assoc]
  rw [← e2,← foldl_rep its k (acc ++ its),← e,List.replicate_succ,List.foldl_cons]
section
variable {X:Cx} {pins:List (Addr × Obj)} {σ : St} {H:Hp} {s:Shared} {l b:Addr} {xs ys zs:List V}
theorem Inv.j6n {its its':List Value} {n:Nat} {f:Array Value → Array Value} {t':Nat} (I:Inv X pins σ H s) (hH:H l = some (.lst xs))
  (e:s.heap.get? l = some { cls:=.type "list",data:=.seq its.toArray n }) (hf:f its.toArray = its'.toArray) (hv:Vals ys its') (hz:ys.length ≤ sizeLine) :
  Inv X pins σ (upd H l (.lst ys)) { s with heap:=s.heap.update l (Obj.mapSeq f),toks:=t' }:=by
 have q:=PySem.IsL.update e f
 rw [hf] at q
 refine I.write (x:=l) (e:=l) (by rw [hH]; exact trivial) (.inl rfl) (fun b' u hb hu=>(Heap.get?_update_other s.heap (Obj.mapSeq f) (Ne.symm hb)).trans hu) ⟨_,q⟩ ?_
 exact ⟨hz,its',_,hv,q⟩
theorem Inv.j68 {its:List Value} {t':Nat} (I:Inv X pins σ H s) (hv:Vals ys its) (hz:ys.length ≤ sizeLine) :
  Inv X pins σ (upd H s.heap.objs.size (.lst ys)) { s with heap:=s.heap.push { cls:=.type "list",data:=.seq its.toArray },toks:=t' }:=
 I.laid (fun _ _ q=>Heap.get?_push_of_some _ q) (Nat.le_refl _) ⟨hz,its,0,hv,Heap.get?_push_size _ rfl⟩
theorem Inv.fresh (I:Inv X pins σ H s) : H s.heap.objs.size = none:=I.hok.fresh (Nat.le_refl _)
theorem Inv.j3p (I:Inv X pins σ H s) (hH:H l = some (.lst xs)) : xs.length ≤ sizeLine ∧ ∃ (its:List Value) (n:Nat),Vals xs its ∧ xs.length = its.length ∧ s.heap.get? l = some { cls:=.type "list",data:=.seq its.toArray n }:=by
 obtain ⟨z,its,n,r,e⟩:=I.hok l _ hH
 exact ⟨z,its,n,r,r.length,e⟩
theorem j0l {n:Nat} (h:n ≤ sizeLine) : Builtin.List.listTooLong n = false:=by
 unfold Builtin.List.listTooLong
 exact decide_eq_false (by omega)
end
section
variable {X:Cx}
def j10:V → List V → Hp → VK → Prop:=fun x vs H Q=>∃ l xs y,x = .ref l ∧ vs = [y] ∧ H l = some (.lst xs) ∧ xs.length < sizeLine ∧ Q .non (upd H l (.lst (xs ++ [y])))
theorem vq:MtM X "list.append" j10:=by
 intro pins s σ H x vs v us Q I rx rv h
 obtain ⟨l,xs,y,rfl,rfl,hH,hz,q⟩:=h
 cases rx
 obtain ⟨u,rfl,ru⟩:=rv.one
 obtain ⟨z,its,n,r,hl,e⟩:=I.j3p hH
 refine call_meets F.slot_list_append ⟨_,e,rfl⟩ F.entry_list_append (F.args_list_append_2 _ _) (PySem.list_append l its.toArray n u (by rw [List.size_toArray]; omega)) ⟨e,?_⟩
 refine ⟨.non,_,I.j6n (its':=its ++ [u]) hH e (by simp) (r.append (.cons ru .nil)) ?_,rfl,q⟩
 rw [List.length_append,List.length_singleton]
 omega
def j4z:V → List V → Hp → VK → Prop:=fun x vs H Q=>∃ l xs i k y,x = .ref l ∧ vs = [.int i] ∧ H l = some (.lst xs) ∧ -(2 ^ 63) ≤ i ∧ i < 2 ^ 63 ∧ seqIndex? i xs.length = some k ∧ xs[k]? = some y ∧ Q y (upd H l (.lst (xs.eraseIdx k)))
theorem j0a:MtM X "list.pop" j4z:=by
 intro pins s σ H x vs v us Q I rx rv h
 obtain ⟨l,xs,i,k,y,rfl,rfl,hH,h1,h2,hk,hy,q⟩:=h
 cases rx
 obtain ⟨u,rfl,ru⟩:=rv.one
 obtain ⟨t,rfl⟩:=ru
 obtain ⟨z,its,n,r,hl,e⟩:=I.j3p hH
 obtain ⟨w,hw,rw'⟩:=r.get hy
 refine call_meets F.slot_list_pop ⟨_,e,rfl⟩ F.entry_list_pop (F.args_list_pop_2 _ _)
  (MeetsSeq.list_pop_at l its.toArray n i t k w (fitsIndex_both h1 h2) (by rw [List.size_toArray,← hl]; exact hk) (by rw [← Array.getElem?_toList]; exact hw) (by rw [List.size_toArray]; omega)) ⟨e,?_⟩
 refine ⟨y,_,I.j6n (its':=its.eraseIdx k) hH e ?_ (r.eraseIdx k) ?_,rw',q⟩
 ·show its.toArray.eraseIdxIfInBounds k = (its.eraseIdx k).toArray
  rw [List.eraseIdxIfInBounds_toArray]
 ·have:=jsn xs k
  omega
def j8m:R2:=fun x y H Q=>∃ l b xs zs,x = .ref l ∧ y = .ref b ∧ H l = some (.lst xs) ∧ H b = some (.lst zs) ∧ xs.length + zs.length ≤ sizeLine ∧ ∀ p,H p = none → Q (.ref p) (upd H p (.lst (xs ++ zs)))
theorem jvk:OpR X (binaryOp .Add) j8m:=by
 intro pins s σ H x y v u Q I rx ry h
 obtain ⟨l,b,xs,zs,rfl,rfl,hH,hB,hz,q⟩:=h
 cases rx
 cases ry
 obtain ⟨z,its,n,r,hl,e⟩:=I.j3p hH
 obtain ⟨z2,its2,n2,r2,hl2,e2⟩:=I.j3p hB
 refine PySem.P.add_list e e2 ?_ (by rw [List.size_toArray,List.size_toArray]; omega)
 have ea:its.toArray ++ its2.toArray = (its ++ its2).toArray:=by simp
 rw [ea]
 exact ⟨.ref _,_,I.j68 (t':=s.toks) (r.append r2) (by rw [List.length_append]; omega),rfl,q _ I.fresh⟩
def j7n:R2:=fun x y H Q=>∃ l k xs,x = .ref l ∧ y = .int k ∧ H l = some (.lst xs) ∧ -(2 ^ 63) ≤ k ∧ k < 2 ^ 63 ∧ xs.length * k.toNat ≤ sizeLine ∧
 ∀ p,H p = none → Q (.ref p) (upd H p (.lst (List.replicate k.toNat xs).flatten))
theorem len_rep {α : Type} (xs:List α) (k:Nat) : (List.replicate k xs).flatten.length = k * xs.length:=by
 induction k with
 | zero=>simp
 | succ k ih=>rw [List.replicate_succ,List.flatten_cons,List.length_append,ih,Nat.succ_mul,Nat.add_comm]
theorem j3x:OpR X (binaryOp .Mult) j7n:=by
 intro pins s σ H x y v u Q I rx ry h
 obtain ⟨l,k,xs,rfl,rfl,hH,h1,h2,hz,q⟩:=h
 cases rx
 obtain ⟨t,rfl⟩:=ry
 obtain ⟨z,its,n,r,hl,e⟩:=I.j3p hH
 have hlen:its.toArray.size * k.toNat ≤ sizeLine:=by rw [List.size_toArray,← hl]; exact hz
 have hcap : ¬ its.toArray.size * k.toNat > (2 ^ 63 - 1) / 8:=by
  have:(sizeLine:Nat) ≤ (2 ^ 63 - 1) / 8:=by decide
  omega
 have hfit : ¬ (!Builtin.List.listFitsIndex k) = true:=by
  rw [fitsIndex_both h1 h2]
  exact Bool.false_ne_true
 have hlong : ¬ Builtin.List.listTooLong (its.toArray.size * k.toNat) = true:=by
  rw [j0l hlen]
  exact Bool.false_ne_true
 have hnew:List.foldl (fun x1 x2=>x1 ++ x2) #[] (List.replicate (if its.toArray.isEmpty = true then 0 else k.toNat) its.toArray) = (List.replicate k.toNat its).flatten.toArray:=by
  have f0 : ∀ m:Nat,List.foldl (fun x1 x2=>x1 ++ x2) #[] (List.replicate m its.toArray) = (List.replicate m its).flatten.toArray:=fun m=>by
   have:=foldl_rep its m []
   rw [List.nil_append] at this
   exact this
  rw [f0]
  cases its with
  | nil=>simp
  | cons a r'=>rw [if_neg (by simp)]
 refine wpAny_binaryOp_repeat_ref (T := "list") (U := "int") (by decide) ⟨_,e,rfl⟩ (fun s'=>typeIs_int s' k t) noFill_list_mul F.fills_int_mul F.slot_int_rmul repeat_list F.slot_int_index.lookup
  (call_meets F.slot_int_rmul (typeIs_int s k t) F.entry_int_rmul (F.args_int_rmul_2 _ _) (int___rmul___int_list k t l its.toArray n)
   ⟨e,rfl,⟨_,e,rfl⟩,call_meets F.slot_list_mul ⟨_,e,rfl⟩ F.entry_list_mul (F.args_list_mul_2 _ _) (AutoListH.list___mul___list_int_3 l its.toArray n k t hfit hcap hlong) ⟨e,?_⟩⟩)
 rw [hnew]
 exact ⟨.ref _,_,I.j68 (t':=s.toks) (r.rep k.toNat) (by rw [len_rep,Nat.mul_comm]; exact hz),rfl,q _ I.fresh⟩
end
section
variable {prog:Program} {w:World} {A:Around} {E:Value → Shared → Prop} {s:Shared}
end
section
variable {X:Cx}
end
end L2
namespace Att
open PySem PySem.W PySem.Calls PyProof.Rows
theorem jpv {P:Params} {h:Heap} : ∀ (ns:List Int) (vs:List Value),WellAll P h vs (ns.map WData.int) → IntsAre vs ns:=by
 intro ns
 induction ns with
 | nil=>
  intro vs w
  rw [List.map_nil] at w
  cases w
  exact .nil
 | cons n ns ih=>
  intro vs w
  rw [List.map_cons] at w
  cases w with
  | cons a b=>
   cases a
   exact .cons _ _ (ih _ b)
theorem jyw {l:OpenLaw} {n:Nat} (hn:l.most = some n) {P:Params} {h:Heap} {args:List WData} {vals:List Value}
  (hpre:l.row.toRowW.claim.pre args = true) (hwl:WellAll P h vals args) :
  ∃ a vs ns,vals = [Value.ref a] ∧ args = [WData.list (ns.map WData.int)] ∧ h.get? a = some { cls:=.type "list",data:=.seq vs.toArray } ∧ IntsAre vs ns ∧ ns.length ≤ n:=by
 have hsh:WShape.hasAll [] args [.list .int] = true:=(pre_splitW hpre).1
 have hc:l.pre.holds [] { args:=args } = true:=(pre_splitW hpre).2
 obtain ⟨d,r,rfl,h1,h2⟩:=hasAllW_cons hsh
 obtain rfl:=hasAllW_nil h2
 obtain ⟨xs,rfl,h3⟩:=hasW_list h1
 obtain ⟨ns,rfl⟩:=items_int h3
 have hlen:ns.length ≤ n:=by
  unfold OpenLaw.pre at hc
  have h4:(WTm.not (.lt (.lit (.int (n:Int))) (.len (.arg 0)))).holds [] { args:=[.list (ns.map .int)] } = true:=by
   have h4:=(holds_andW hc).1
   rw [hn] at h4
   exact h4
  have h5:=condW_of h4 (w_not (w_lt w_lit (w_len_list (w_arg rfl))))
  rw [List.length_map] at h5
  refine Nat.le_of_not_lt fun q=>?_
  have q':(n:Int) < ((ns.length:Nat) : Int):=by omega
  first
   | (rw [decide_eq_true q'] at h5; exact absurd h5 (by decide))
   | (simp at h5; omega)
 cases hwl with
 | cons w1 w2=>
  cases w2
  cases w1 with
  | list ho hall=>exact ⟨_,_,ns,rfl,rfl,ho,jpv ns _ hall,hlen⟩
theorem jw8 (l:OpenLaw) (args:List WData) : l.row.toRowW.claim.post args (.bool true) args = true:=
 postW_of (r:=l.row.toRowW) (X:=(true == true))
  (show WShape.has [] (.bool true) .bool = true by first | rfl | decide | simp [WShape.has,WShape.arms,WShape.armsAll])
  (show (WTm.eq .res (.lit (.bool true))).value [] { args:=args,res:=some (.bool true),after:=args } = some (.bool (true == true)) from w_eq_bool (w_res rfl) w_lit) rfl
theorem jui {l:OpenLaw} {n:Nat} {q:Program} {loose:List Str} {XP:(Str → Option Value) → Heap → Prop} {YP:World → Heap → Prop} {d:DefRec}
  (hn:l.most = some n) (hdf:d.params.defaults = [])
  (call : ∀ (w:World) (s₀ s₁:Shared) (mg mb:Str → Option Value) (fa:Addr) (o:Obj) (pm cd doc:Value) (a:Addr) (vs:List Value) (ns:List Int),
   Ground q loose [] XP w s₀ mg mb s₁.heap → YP w s₁.heap →
   s₁.heap.get? fa = some o → o.data = .func (docDef d.name d.params d.body d.scope pm cd doc) → s₁.heap.CodeRec cd d.name → mg d.name = some (.ref fa) →
   s₁.heap.get? a = some { cls:=.type "list",data:=.seq vs.toArray } → IntsAre vs ns → ns.length ≤ n → s₁.gens = #[] →
   codeAny (model l.prog w) callerA (.call (.ref fa) ⟨[.ref a],[]⟩) (fun r s'=>r = .ok (.ret (.bool true)) ∧ OldK s₁.heap s'.heap ∧ s'.os = s₁.os ∧ AllBare s'.gens) s₁) :
  WalkO q loose XP YP l.row.toRowW d [] (fun f vs=>PySem.call f vs):=by
 intro w s₀ s₁ mg mb G Y fa o pm cd doc dV kV ho hd hcd hD hmg hg args vals as hpre hlay hrd hwl hlo
 obtain rfl:dV = .none:=Dflts.none hD hdf
 obtain rfl:kV = .none:=Dflts.noKw hD
 obtain ⟨a,vs,ns,rfl,rfl,hobj,hints,hlen⟩:=jyw hn hpre hwl
 refine enter_call (codeAny_mono (call w s₀ s₁ mg mb fa o pm cd doc a vs ns G Y ho (fd_plain hd) hcd hmg hobj hints hlen hg) fun r s' hq=>?_)
 obtain ⟨rfl,h2,h3,h4⟩:=hq
 exact ⟨.inl ⟨.bool true,.bool true,[],rfl,fun _=>rfl,.bool true,jw8 l _,fun _=>⟨List.Pairwise.nil,fun _ hm=>(nomatch hm)⟩⟩,h2,h3,h4⟩
section
variable {prog:Program} {w:World} {A:Around} {E:Value → Shared → Prop} {s:Shared} {K:Frag}
end
end Att
namespace L2
open PySem PySem.Spec PyProof.Rows
theorem jti : ∀ {vs:List Value} {ns:List Int},IntsAre vs ns → Vals (ns.map V.int) vs
 | _,_,.nil=>.nil
 | _,_,.cons n t h=>.cons ⟨t,rfl⟩ (jti h)
def j5k (H:Hp) : Prop:=∀ b,H b = none ∨ ∃ o xs,H b = some (.frz o (.lst xs))
theorem j0h {P:Program} {w:World} {K:PySem.W.Frag} {mg mb:Str → Option Value} {CX:CXT} {k:Nat} {fa a:Addr} {fd:FuncData} {x:Str} {sp:Sp} {s₁:Shared} {vs:List Value} {ns:List Int}
    (KX:K.In s₁.heap) (hns:s₁.heap.Ns mainGlobals mg) (hb:s₁.heap.Ns builtinsNs mb) (hbb : ∀ x:Str,x ≠ "__name__" → mb x = bootBuiltins x) (hlim:s₁.heap.NoLimit) (hg:s₁.gens = #[])
    (ha:s₁.heap.get? a = some { cls:=.type "list",data:=.seq vs.toArray }) (hi:IntsAre vs ns) (hl:ns.length ≤ sizeLine) (hr:jfi k callerA)
    (F : ∀ base:Heap,K.In base → base.Ns mainGlobals mg → yf P w K mg base CX k fa fd [x] sp) (hbind : ∀ (s:Shared) (u:Value),BindsTo s fd ⟨[u],[]⟩ [(x,u)])
    (hsp : ∀ H:Hp,j5k H → SqL K H a (ns.map V.int) → sp [.ref a] H (fun v _=>v = .bl true) fun _ _ _=>False)
    (hCX : ∀ H e s',CX [] H s₁ (fun _ _ _=>False) e s' → False) :
    codeAny (model P w) callerA (.call (.ref fa) ⟨[.ref a],[]⟩) (fun r s'=>r = .ok (.ret (.bool true)) ∧ OldK s₁.heap s'.heap ∧ s'.os = s₁.os ∧ AllBare s'.gens) s₁:=by
  have rv:=jti hi
  have lenV:=hi.length
  have core : ∀ H:Hp,j5k H → SqL K H a (ns.map V.int) → HOk P w H s₁.heap → (∀ b,H b ≠ none → b = a) → (H a ≠ none → K.lookup a = none) →
      codeAny (model P w) callerA (.call (.ref fa) ⟨[.ref a],[]⟩) (fun r s'=>r = .ok (.ret (.bool true)) ∧ OldK s₁.heap s'.heap ∧ s'.os = s₁.os ∧ AllBare s'.gens) s₁:=by
    intro H hO hS hok hA hK
    have base_of : ∀ {b:Addr} {o:Obj},s₁.heap.get? b = some o → H b = none → (jz0 s₁.heap H).get? b = some o:=fun e n=>jzv e n
    have noA : ∀ {b:Addr} {o:Obj} {es:Array DictEntry} {ep:Nat},s₁.heap.get? b = some o → o.data = .dict es ep → H b = none:=fun {b o es ep} e d=>by
      cases q:H b with
      | none=>rfl
      | some u=>
        have e':b = a:=hA b (by rw [q]; simp)
        subst e'
        rw [ha] at e; cases e
        have d':Data.seq vs.toArray _ = Data.dict es ep:=d
        cases d'
    have nsK : ∀ {b:Addr} {m:Str → Option Value},s₁.heap.Ns b m → (jz0 s₁.heap H).Ns b m:=fun {b m} ⟨o,es,ep,e,d,r⟩=>⟨o,es,ep,base_of e (noA e d),d,r⟩
    have hKb:K.In (jz0 s₁.heap H):=fun b o e=>base_of (KX b o e) (by
      cases q:H b with
      | none=>rfl
      | some u=>
        have e':b = a:=hA b (by rw [q]; simp)
        subst e'
        rw [hK (by rw [q]; simp)] at e; cases e)
    have hM:Mod K mg (jz0 s₁.heap H):=⟨hKb,nsK hns,⟨mb,nsK hb,hbb⟩,let ⟨mc,h1,h2⟩:=hlim; ⟨mc,nsK h1,h2⟩⟩
    have e0:j1x P w K mg (jz0 s₁.heap H) callerA [] s₁ H:=⟨rfl,hM,fun b o e=>j2x e,Nat.le_of_eq (jw7 _ _),trivial,fun b hb=>absurd (show b ∈ ([] : List Addr) from hb) (by simp),hok,.of_eq hg⟩
    refine codeAny_mono ((F _ hKb (nsK hns)).run callerA [] s₁ H ⟨[.ref a],[]⟩ [.ref a] [.ref a] _ _ hr e0 (hbind s₁ (.ref a)) (.cons rfl .nil) (hsp H hO hS)) fun r s' h=>?_
    cases r with
    | error e=>exact (hCX H e s' h).elim
    | ok fl =>
      cases fl with
      | next=>exact False.elim h
      | brk=>exact False.elim h
      | cont=>exact False.elim h
      | ret u=>
        obtain ⟨v,H',os,bare,un,hok',r',q⟩:=h
        have q':v = .bl true:=q
        subst q'
        obtain rfl:u = Value.bool true:=r'
        refine ⟨rfl,OldK.of_keep fun b o e=>?_,os,bare⟩
        cases q:H b with
        | none=>exact un.keep b o e q (by intro z; exact absurd (show b ∈ ([] : List Addr) from z) (by simp)) (by simp)
        | some u=>
          rcases hO b with z | ⟨ob,xs,z⟩
          · rw [q] at z; cases z
          · have z2:=un.jrz b ob _ z
            obtain ⟨e1,_⟩:=hok b _ z
            obtain ⟨e2,_⟩:=hok' b _ z2
            rw [e] at e1; cases e1
            exact e2
  cases hk:K.lookup a with
  | some o=>
    have e:=KX a o hk
    rw [ha] at e
    cases e
    refine core (fun _=>none) (fun _=>.inl rfl) (.inr ⟨_,vs.toArray,_,hk,rfl,rfl,rfl,by rw [List.size_toArray,lenV]; exact hl,by simpa using rv⟩) (fun b u z=>by have z':(none:Option HO) = some u:=z; cases z') (fun b z=>absurd rfl z) fun z=>absurd rfl z
  | none=>
    refine core (fun b=>if b = a then some (.frz { cls:=.type "list",data:=.seq vs.toArray } (.lst (ns.map V.int))) else none) (fun b=>?_) (.inl (.inr ⟨{ cls:=.type "list",data:=.seq vs.toArray },if_pos rfl⟩)) (fun b u z=>?_) (fun b z=>?_) fun _=>hk
    · by_cases hb:b = a
      · exact .inr ⟨_,_,if_pos hb⟩
      · exact .inl (if_neg hb)
    · by_cases hb:b = a
      · have z':=(if_pos hb).symm.trans z
        cases z'
        subst hb
        exact ⟨ha,by rw [List.length_map]; exact hl,vs,_,rv,ha⟩
      · have z':=(if_neg hb).symm.trans z
        cases z'
    · by_cases hb:b = a
      · exact hb
      · exact absurd (if_neg hb) z
end L2
namespace L2
open PySem PySem.Spec PyProof.Rows
theorem j17 {l:PySem.W.OpenLaw} {n k:Nat} {q:Program} {loose:List Str} {XP:(Str → Option Value) → Heap → Prop} {YP:World → Heap → Prop} {d:DefRec} {K:Params → PySem.W.Frag} {CX:World → CXT} {sp:World → Sp} {x:Str}
  (hn:l.most = some n) (hn2:n ≤ sizeLine) (hdf:d.params.defaults = []) (hr:jfi k callerA)
  (hY : ∀ (w:World) (h:Heap),YP w h → (K w.params).In h)
  (F : ∀ (w:World) (mg:Str → Option Value) (fa:Addr) (h:Heap),(K w.params).In h → h.Ns mainGlobals mg → mg d.name = some (.ref fa) →
   ∃ fd:FuncData,(∀ (s:Shared) (u:Value),BindsTo s fd ⟨[u],[]⟩ [(x,u)]) ∧
    ∀ base:Heap,(K w.params).In base → base.Ns mainGlobals mg → yf l.prog w (K w.params) mg base (CX w) k fa fd [x] (sp w))
  (hsp : ∀ (w:World) (H:Hp) (a:Addr) (ns:List Int),ns.length ≤ n → j5k H → SqL (K w.params) H a (ns.map V.int) → sp w [.ref a] H (fun v _=>v = .bl true) fun _ _ _=>False)
  (hCX : ∀ (w:World) (H:Hp) (s:Shared) (e:Value) (s':Shared),CX w [] H s (fun _ _ _=>False) e s' → False) :
  PySem.W.WalkO q loose XP YP l.row.toRowW d [] (fun f vs=>PySem.call f vs):=by
 refine Att.jui hn hdf fun w s₀ s₁ mg mb fa o pm cd doc a vs ns G Y ho hd hcd hmg hobj hints hlen hg=>?_
 have KX:=hY w _ Y
 obtain ⟨fd,hb,hF⟩:=F w mg fa _ KX G.T.g hmg
 exact j0h KX G.T.g G.T.b G.T.builtins G.T.nolimit hg hobj hints (Nat.le_trans hlen hn2) hr hF hb (fun H hO hS=>hsp w H a ns hlen hO hS) fun H e s'=>hCX w H s₁ e s'
theorem jzg {l:PySem.W.OpenLaw} {n k:Nat} {q:Program} {loose:List Str} {XP:(Str → Option Value) → Heap → Prop} {YP:World → Heap → Prop} {d:DefRec} {K:Params → PySem.W.Frag} {CX:CXT} {sp:PySem.W.Frag → Sp} {x:Str}
  (hn:l.most = some n) (hn2:n ≤ sizeLine) (hdf:d.params.defaults = []) (hr:jfi k callerA)
  (hY : ∀ (w:World) (h:Heap),YP w h → (K w.params).In h)
  (F : ∀ (w:World) (mg:Str → Option Value) (fa:Addr) (h:Heap),(K w.params).In h → h.Ns mainGlobals mg → mg d.name = some (.ref fa) →
   ∃ fd:FuncData,(∀ (s:Shared) (u:Value),BindsTo s fd ⟨[u],[]⟩ [(x,u)]) ∧
    ∀ base:Heap,(K w.params).In base → base.Ns mainGlobals mg → yf l.prog w (K w.params) mg base CX k fa fd [x] (sp (K w.params)))
  (hsp : ∀ (K:PySem.W.Frag) (H:Hp) (a:Addr) (ns:List Int),ns.length ≤ n → j5k H → SqL K H a (ns.map V.int) → sp K [.ref a] H (fun v _=>v = .bl true) fun _ _ _=>False)
  (hCX : ∀ (H:Hp) (s:Shared) (e:Value) (s':Shared),CX [] H s (fun _ _ _=>False) e s' → False) :
  PySem.W.WalkO q loose XP YP l.row.toRowW d [] (fun f vs=>PySem.call f vs):=
 j17 (K:=K) (CX:=fun _=>CX) (sp:=fun w=>sp (K w.params)) hn hn2 hdf hr hY F (fun w H a ns h1 h2 h3=>hsp (K w.params) H a ns h1 h2 h3) fun _ H s e s'=>hCX H s e s'
end L2
namespace L2
open PySem PySem.Spec PyProof.Rows
def inClass (s:Stmt) (j:Nat) : Stmt:=match s with
 | .ClassDef _ _ _ body _ _ _ _ _ _ _=>body.getD j (.Pass ⟨0,0,0,0⟩)
 | _=>.Pass ⟨0,0,0,0⟩
def jlv (s:Stmt) : Arguments:=match s with
 | .FunctionDef _ a _ _ _ _ _ _ _ _=>a
 | _=>{ posonlyargs:=[],args:=[],vararg:=none,kwonlyargs:=[],kw_defaults:=[],kwarg:=none,defaults:=[] }
def jha (s:Stmt) : List Stmt:=match s with
 | .FunctionDef _ _ b _ _ _ _ _ _ _=>b
 | _=>[]
def jh (s:Stmt) : Scope:=match s with
 | .FunctionDef _ _ _ _ _ _ sc _ _ _=>sc
 | _=>{ kind:=.function,names:=[],isGenerator:=false,isCoroutine:=false }
abbrev CX0:CXT:=fun _ _ _ _ _ _=>False
abbrev E0:XK:=fun _ _ _=>False
theorem jr {X:Cx} : Passes CX0 X E0:=fun _ _ _ _ _ _ _ h=>h.elim
structure Fun (K:PySem.W.Frag) (x qual:Str) (st:Stmt) (f:Addr) (fd:FuncData) : Prop where
 ex : ∃ (oc:Value) (od:Option Addr) (kV doc pm:Value) (an:Option Addr) (cdv ct:Value) (osl:Array (Option Value)),
  fd = PySem.W.fnOf x qual (jlv st) (jha st) (jh st) .none kV doc pm an cdv ct ∧ K.lookup f = some ⟨oc,od,.func fd,osl⟩ ∧ PySem.W.codeIn K cdv qual = true
 kp:PySem.W.keepIn K (.ref f) = true
section
variable {P:Program} {w:World} {K:PySem.W.Frag} {mg:Str → Option Value} {base:Heap}
theorem Fun.ok {x qual:Str} {st:Stmt} {f:Addr} {fd:FuncData} {N ps:List Str} {k:Nat} {sp:Sp} (F:Fun K x qual st f fd) (S:jo N ps (jh st)) (len : ∀ vs H Q E,sp vs H Q E → vs.length = ps.length)
  (hbody : ∀ (cdv:Value) (A:Around) (outer:List Env) (s:Shared) (H:Hp) (vs:List V) (Q:VK) (E:XK),jfi k (A.deeper (envOfC qual (jh st) s.heap.objs.size f cdv)) → sp vs H Q E →
   ∃ t,PSs (js8 CX0 P w K mg base N qual (jh st) f cdv A outer s H E).nox (jha st) t ∧ t { nx:=fun _ H'=>Q .non H',rt:=Q } (start N vs) H) : yf P w K mg base CX0 (k + 1) f fd ps sp:=by
 obtain ⟨oc,od,kV,doc,pm,an,cdv,ct,osl,rfl,lk,hcd⟩:=F.ex
 refine j40 lk hcd S len fun A outer s H vs Q E hr hsp=>?_
 obtain ⟨t,h,q⟩:=hbody cdv A outer s H vs Q E hr hsp
 exact ⟨t,h.nox,q⟩
theorem Fun.binds {x qual:Str} {st:Stmt} {f:Addr} {fd:FuncData} {ps:List Str} (F:Fun K x qual st f fd)
  (h : ∀ (kV doc pm:Value) (an:Option Addr) (cdv ct:Value) (us:List Value),us.length = ps.length → bindArgs (PySem.W.fnOf x qual (jlv st) (jha st) (jh st) .none kV doc pm an cdv ct) ⟨us,[]⟩ = pure (ps.zip us)) : Binds K fd ps []:=by
 obtain ⟨oc,od,kV,doc,pm,an,cdv,ct,osl,rfl,lk,hcd⟩:=F.ex
 exact .all (h kV doc pm an cdv ct)
theorem jj {x qual:Str} {st:Stmt} {f:Addr} {oc:Value} {od an:Option Addr} {osl:Array (Option Value)} {kV doc pm cdv ct:Value} (l:K.lookup f = some ⟨oc,od,.func (PySem.W.fnOf x qual (jlv st) (jha st) (jh st) .none kV doc pm an cdv ct),osl⟩)
  (c:PySem.W.codeIn K cdv qual = true) (k:PySem.W.keepIn K (.ref f) = true) : Fun K x qual st f (PySem.W.fnOf x qual (jlv st) (jha st) (jh st) .none kV doc pm an cdv ct):=⟨⟨oc,od,kV,doc,pm,an,cdv,ct,osl,rfl,l,c⟩,k⟩
end
theorem jol {A:Around} {k:Nat} (hr:jfi k A) : A.units + 1 < cLine:=Nat.lt_of_le_of_lt (Nat.add_le_add_left (by decide : 1 ≤ 64) _) hr.units
theorem xt {n:Nat} (h:n ≤ 1000) : n < sizeLine:=Nat.lt_of_le_of_lt h (by decide)
section
variable {X:Cx}
theorem pv (i:Nat) {x:Str} {pos:Pos} (hN:X.N[i]? = some x:=by rfl) (hv:Vis X.env.scope x:=by first | exact Or.inl rfl | exact Or.inr (Or.inl rfl) | exact Or.inr (Or.inr rfl)) (hd:(x == ("__debug__" : Str)) = false:=by decide)
  (hcd:(x == ("__classdict__" : Str)) = false:=by decide) : PE X (.Name x pos) (j7j i):=j35 hN hv hd hcd
end
theorem pq {A B:Prop} (h:B) : if false = true then A else B:=by
 rw [if_neg Bool.false_ne_true]
 exact h
theorem jno {A B:Prop} (h:A) : if true = true then A else B:=by
 rw [if_pos rfl]
 exact h
theorem jgn {c A B:Prop} [Decidable c] (h1:c → A) (h2 : ¬ c → B) : if c then A else B:=by
 by_cases h:c
 ·rw [if_pos h]
  exact h1 h
 ·rw [if_neg h]
  exact h2 h
def wz (H H':Hp) : Prop:=∀ b o,H b = some o → H' b = some o
theorem wz.refl (H:Hp) : wz H H:=fun _ _ h=>h
theorem wz.trans {H H1 H2:Hp} (a:wz H H1) (b:wz H1 H2) : wz H H2:=fun c o h=>b c o (a c o h)
theorem wz.free {H H':Hp} (e:wz H H') {l:Addr} (h:H' l = Option.none) : H l = Option.none:=by
 cases q:H l with
 | none=>rfl
 | some o=>
  rw [e l o q] at h
  cases h
theorem wz.seq {K:PySem.W.Frag} {H H':Hp} {a:Addr} {xs:List V} (e:wz H H') (h:SqL K H a xs) : SqL K H' a xs:=by
 rcases h with (h | ⟨o,h⟩) | h
 ·exact .inl (.inl (e _ _ h))
 ·exact .inl (.inr ⟨o,e _ _ h⟩)
 ·exact .inr h
end L2
namespace L2
open PySem PySem.Spec PyProof.Rows
section
variable {κ : Type} [DecidableEq κ]
def jgm (kvs:List (κ × V)) (k : κ) : Option V:=(kvs.find? fun kv=>decide (kv.1 = k)).map (·.2)
def putK (kvs:List (κ × V)) (k : κ) (v:V) : List (κ × V):=
 if (kvs.any fun kv=>decide (kv.1 = k)) = true then kvs.map (fun kv=>if kv.1 = k then (kv.1,v) else kv) else kvs ++ [(k,v)]
theorem jb6 {p : κ × V} {r:List (κ × V)} {k : κ} (e:p.1 = k) : jgm (p :: r) k = some p.2:=by simp [jgm,List.find?_cons,e]
theorem jb4 {p : κ × V} {r:List (κ × V)} {k : κ} (e : ¬ p.1 = k) : jgm (p :: r) k = jgm r k:=by simp [jgm,List.find?_cons,e]
theorem jn6 (k : κ) : ∀ kvs:List (κ × V),(kvs.any fun kv=>decide (kv.1 = k)) = (jgm kvs k).isSome
 | []=>rfl
 | p :: r=>by
  rw [List.any_cons]
  by_cases e:p.1 = k
  ·simp only [jb6 e,decide_eq_true e,Bool.true_or,Option.isSome_some]
  ·rw [jb4 e,decide_eq_false e,Bool.false_or]; exact jn6 k r
theorem jcj (kvs:List (κ × V)) (k : κ) (v:V) : (putK kvs k v).length ≤ kvs.length + 1:=by
 unfold putK
 split
 ·rw [List.length_map]; omega
 ·rw [List.length_append,List.length_cons,List.length_nil]; omega
theorem jn3 {kvs:List (κ × V)} {k : κ} (v:V) (h:jgm kvs k = none) : putK kvs k v = kvs ++ [(k,v)]:=by
 unfold putK
 rw [jn6,h]
 exact if_neg (by decide)
theorem jr6.jg3 {o:Option V} {u:Option Value} (r:jr6 o u) : o.isSome = u.isSome:=by
 cases o with
 | none=>cases u with
  | none=>rfl
  | some _=>exact (show False from r).elim
 | some _=>cases u with
  | none=>exact (show False from r).elim
  | some _=>rfl
theorem jr6.getD {o:Option V} {u:Option Value} {d:V} {d':Value} (r:jr6 o u) (rd:RelV d d') : RelV (o.getD d) (u.getD d'):=by
 cases o with
 | none=>cases u with
  | none=>exact rd
  | some _=>exact (show False from r).elim
 | some _=>cases u with
  | none=>exact (show False from r).elim
  | some _=>exact r
theorem KV.val {kvs:List (κ × V)} {vs:List (κ × Value)} (r:KV kvs vs) (k : κ) : jr6 (jgm kvs k) (valueAt vs k):=by
 unfold KV at r
 induction r with
 | nil=>exact True.intro
 | @cons p q ps qs h t ih=>
  obtain ⟨h1,h2⟩:=h
  by_cases e:p.1 = k
  ·have e':q.1 = k:=h1.symm.trans e
   have b:valueAt (q :: qs) k = some q.2:=by simp [valueAt,List.find?_cons,e']
   rw [jb6 e,b]; exact h2
  ·have e' : ¬ q.1 = k:=fun z=>e (h1.trans z)
   have b:valueAt (q :: qs) k = valueAt qs k:=by simp [valueAt,List.find?_cons,e']
   rw [jb4 e,b]; exact ih
theorem KV.any {kvs:List (κ × V)} {vs:List (κ × Value)} (r:KV kvs vs) (k : κ) : (kvs.any fun kv=>decide (kv.1 = k)) = vs.any fun kv=>decide (kv.1 = k):=by
 unfold KV at r
 induction r with
 | nil=>rfl
 | cons h t ih=>rw [List.any_cons,List.any_cons,ih,h.1]
theorem KV.j61 {kvs:List (κ × V)} {vs:List (κ × Value)} (r:KV kvs vs) (k : κ) {y:V} {u:Value} (ry:RelV y u) :
  KV (kvs.map fun kv=>if kv.1 = k then (kv.1,y) else kv) (vs.map fun kv=>if kv.1 = k then (kv.1,u) else kv):=by
 unfold KV at r ⊢
 induction r with
 | nil=>exact .nil
 | @cons p q ps qs h t ih=>
  rw [List.map_cons,List.map_cons]
  refine .cons ?_ ih
  obtain ⟨h1,h2⟩:=h
  by_cases e:p.1 = k
  ·rw [if_pos e,if_pos (h1.symm.trans e)]; exact ⟨h1,ry⟩
  ·rw [if_neg e,if_neg (fun z=>e (h1.trans z))]; exact ⟨h1,h2⟩
theorem KV.put {kvs:List (κ × V)} {vs:List (κ × Value)} (r:KV kvs vs) (k : κ) {y:V} {u:Value} (ry:RelV y u) : KV (putK kvs k y) (stored vs k u):=by
 unfold putK stored
 rw [r.any k]
 by_cases e:(vs.any fun kv=>decide (kv.1 = k)) = true
 ·rw [if_pos e,if_pos e]; exact r.j61 k ry
 ·rw [if_neg e,if_neg e]; exact Paired.snoc r ⟨rfl,ry⟩
theorem KV.length {kvs:List (κ × V)} {vs:List (κ × Value)} (r:KV kvs vs) : kvs.length = vs.length:=Paired.length r
end
theorem jt8 {P:Program} {w:World} {k:Key} {u:Value} (r:RelV (kV k) u) : (zf P w).is k u = true:=by
 cases k with
 | inl i=>obtain ⟨t,e⟩:=(show ∃ t,u = Value.int i t from r); subst e; exact jud P w i t
 | inr x=>obtain ⟨t,e⟩:=(show ∃ t,u = Value.str x t from r); subst e; exact juu P w x t
theorem js9 {P:Program} {w:World} : ∀ {ks:List Key} {us:List Value},Vals (ks.map kV) us → ItemsAre (zf P w) ks us
 | [],_,r=>by rw [List.map_nil] at r; cases r; exact .nil
 | k :: ks,_,r=>by
  rw [List.map_cons] at r
  cases r with
  | cons h t=>exact .cons (jt8 h) (js9 t)
abbrev KT (H:Hp) : List (List Key × V) → List (List Key × Addr × Value) → Prop:=Paired fun p q=>p.1 = q.1 ∧ H q.2.1 = some (.tup (p.1.map kV)) ∧ RelV p.2 q.2.2
theorem KT.val {H:Hp} {kvs:List (List Key × V)} {xs:List (List Key × Addr × Value)} (r:KT H kvs xs) (k:List Key) : jr6 (jgm kvs k) ((atKey xs k).map (·.2)):=by
 induction r with
 | nil=>exact True.intro
 | @cons p q ps qs h t ih=>
  obtain ⟨h1,_,h2⟩:=h
  by_cases e:p.1 = k
  ·have e':q.1 = k:=h1.symm.trans e
   have b:atKey (q :: qs) k = some q.2:=by simp [atKey,List.find?_cons,e']
   rw [jb6 e,b]; exact h2
  ·have e' : ¬ q.1 = k:=fun z=>e (h1.trans z)
   have b:atKey (q :: qs) k = atKey qs k:=by simp [atKey,List.find?_cons,e']
   rw [jb4 e,b]; exact ih
theorem KT.j61 {H:Hp} {kvs:List (List Key × V)} {xs:List (List Key × Addr × Value)} (r:KT H kvs xs) (k:List Key) {y:V} {u:Value} (ry:RelV y u) :
  KT H (kvs.map fun kv=>if kv.1 = k then (kv.1,y) else kv) (xs.map (putAt k u)):=by
 induction r with
 | nil=>exact .nil
 | @cons p q ps qs h t ih=>
  rw [List.map_cons,List.map_cons]
  refine .cons ?_ ih
  obtain ⟨h1,h2,h3⟩:=h
  unfold putAt
  by_cases e:p.1 = k
  ·rw [if_pos e,if_pos (h1.symm.trans e)]; exact ⟨h1,h2,ry⟩
  ·rw [if_neg e,if_neg (fun z=>e (h1.trans z))]; exact ⟨h1,h2,h3⟩
theorem KT.put {H:Hp} {kvs:List (List Key × V)} {xs:List (List Key × Addr × Value)} (r:KT H kvs xs) (k:List Key) {b:Addr} {y:V} {u:Value} (hb:H b = some (.tup (k.map kV))) (ry:RelV y u) :
  KT H (putK kvs k y) (storedH xs k b u):=by
 have e:(kvs.any fun kv=>decide (kv.1 = k)) = (atKey xs k).isSome:=by
  rw [jn6,(r.val k).jg3,Option.isSome_map]
 unfold putK storedH
 rw [e]
 by_cases q:(atKey xs k).isSome = true
 ·rw [if_pos q,if_pos q]; exact r.j61 k ry
 ·rw [if_neg q,if_neg q]; exact Paired.snoc r ⟨rfl,hb,ry⟩
theorem KT.keeps {H H':Hp} {kvs:List (List Key × V)} {xs:List (List Key × Addr × Value)} (r:KT H kvs xs) (ht : ∀ b ys,H b = some (.tup ys) → H' b = some (.tup ys)) : KT H' kvs xs:=
 Paired.pz r fun _ _ z=>⟨z.1,ht _ _ z.2.1,z.2.2⟩
section
variable {P:Program} {w:World} {H:Hp} {h:Heap} {a:Addr}
theorem j48 {u:HO} (ok:HOk P w H h) (e:Rd H a u) : we P w H h a u:=e.ok ok
theorem jt2 {kvs:List (Key × V)} (ok:HOk P w H h) (e:Rd H a (.dK kvs)) : kvs.length ≤ sizeLine ∧ (a == sysModules) = false ∧ ∃ vs,KV kvs vs ∧ h.DictOf (zf P w) a vs:=
 show we P w H h a (.dK kvs) from j48 ok e
theorem j45 {kvs:List (Key × V)} (ok:HOk P w H h) (e:H a = some (.dK kvs)) : kvs.length ≤ sizeLine ∧ (a == sysModules) = false ∧ ∃ vs,KV kvs vs ∧ h.DictOf (zf P w) a vs:=jt2 ok (.inl e)
theorem jm5 {ks:List Key} (ok:HOk P w H h) (e:H a = some (.tup (ks.map kV))) : (tupleKind (zf P w)).is h ks a:=by
 obtain ⟨_,its,r,o,h1,h2,n,h3⟩:=(show we P w H h a (.tup (ks.map kV)) from ok a _ e)
 exact ⟨o,its.toArray,n,h1,h2,h3,by simpa using js9 r⟩
theorem jux {kvs:List (List Key × V)} (ok:HOk P w H h) (e:Rd H a (.dT kvs)) : kvs.length ≤ sizeLine ∧ (a == sysModules) = false ∧
  ∃ xs,KT H kvs xs ∧ h.DictOfH (tupleKind (zf P w)) a xs:=by
 obtain ⟨z,y,xs,r,o,es,ep,h1,h2,h3,h4,h5⟩:=(show we P w H h a (.dT kvs) from j48 ok e)
 refine ⟨z,y,xs,r,o,es,ep,h1,h2,h3,h4,fun x hx=>?_,h5⟩
 have all : ∀ {l:List (List Key × V)} {m:List (List Key × Addr × Value)},KT H l m → ∀ x ∈ m,(tupleKind (zf P w)).is h x.1 x.2.1:=by
  intro l m q
  induction q with
  | nil=>intro x hx; exact nomatch hx
  | @cons p q ps qs hq t ih=>
   intro x hx
   rcases List.mem_cons.mp hx with e | hx
   ·subst e
    exact jm5 ok (by rw [← hq.1]; exact hq.2.1)
   ·exact ih x hx
 exact all r x hx
theorem j2r {kvs:List (List Key × V)} (ok:HOk P w H h) (e:H a = some (.dT kvs)) : kvs.length ≤ sizeLine ∧ (a == sysModules) = false ∧
  ∃ xs,KT H kvs xs ∧ h.DictOfH (tupleKind (zf P w)) a xs:=jux ok (.inl e)
end
def jz7 (H:Hp) (a:Addr) (y:V) (r:Option V) : Prop:=
 (∃ kvs k,Rd H a (.dK kvs) ∧ y = kV k ∧ r = jgm kvs k) ∨ ∃ kvs k b,Rd H a (.dT kvs) ∧ y = .ref b ∧ H b = some (.tup (k.map kV)) ∧ r = jgm kvs k
def jwx (H:Hp) (a:Addr) (y v:V) (H':Hp) : Prop:=
 (∃ kvs k,H a = some (.dK kvs) ∧ y = kV k ∧ kvs.length < sizeLine ∧ H' = upd H a (.dK (putK kvs k v))) ∨
 ∃ kvs k b,H a = some (.dT kvs) ∧ y = .ref b ∧ H b = some (.tup (k.map kV)) ∧ kvs.length < sizeLine ∧ H' = upd H a (.dT (putK kvs k v))
theorem jwx.k {H:Hp} {a:Addr} {kvs:List (Key × V)} {k:Key} {v:V} (e:H a = some (.dK kvs)) (hl:kvs.length < sizeLine) : jwx H a (kV k) v (upd H a (.dK (putK kvs k v))):=.inl ⟨kvs,k,e,rfl,hl,rfl⟩
theorem jwx.t {H:Hp} {a b:Addr} {kvs:List (List Key × V)} {k:List Key} {v:V} (e:H a = some (.dT kvs)) (eb:H b = some (.tup (k.map kV))) (hl:kvs.length < sizeLine) :
  jwx H a (.ref b) v (upd H a (.dT (putK kvs k v))):=.inr ⟨kvs,k,b,e,rfl,eb,hl,rfl⟩
section
variable {X:Cx} {pins:List (Addr × Obj)} {σ : St} {H:Hp} {s:Shared} {a:Addr} {y v:V} {u r:Value} {o:Option V} {A:Around} {E:Value → Shared → Prop}
theorem Inv.big (I:Inv X pins σ H s) : sysModules < s.heap.objs.size:=by
 have h:mainGlobals < s.heap.objs.size:=(I.mod.glob.keeps I.bk).lt
 exact Nat.lt_trans (by decide) h
theorem jyn {Q:Value → Shared → Prop} (hu:A.units + 1 < cLine) (I:Inv X pins σ H s) (g:jz7 H a y (some v)) (ry:RelV y u) (h : ∀ w' s',Inv X pins σ H s' → RelV v w' → Q w' s') :
  wpAny (model X.prog X.w) A (getItem (.ref a) u) Q E s:=by
 rcases g with ⟨kvs,k,e,ey,l⟩ | ⟨kvs,k,b,e,ey,eb,l⟩
 ·subst ey
  obtain ⟨z,hd,vs,rel,dd⟩:=jt2 I.hok e
  obtain ⟨w',hw,rw'⟩:=jr6.some_of (v:=v) (o:=valueAt vs k) (by rw [l]; exact rel.val k)
  exact wpAny_getItem_of (jt8 ry) dd.mapOf hw (h w' _ (I.tok _) rw')
 ·subst ey
  cases (show u = Value.ref b from ry)
  obtain ⟨z,hd,xs,rel,dd⟩:=jux I.hok e
  obtain ⟨w',hw,rw'⟩:=jr6.some_of (v:=v) (o:=(atKey xs k).map (·.2)) (by rw [l]; exact rel.val k)
  obtain ⟨p,hp,hp2⟩:=Option.map_eq_some_iff.mp hw
  refine wpAny_getItem_heap (tupleKind_room_in1 hu) (jm5 I.hok eb) dd hp ?_
  rw [hp2]
  exact h w' _ (I.tok _) rw'
theorem j79 {Q:Value → Shared → Prop} (hu:A.units + 1 < cLine) (I:Inv X pins σ H s) (g:jz7 H a y o) (ry:RelV y u) (h : ∀ s',Inv X pins σ H s' → Q (.bool o.isSome) s') :
  wpAny (model X.prog X.w) A (compareOp .In u (.ref a)) Q E s:=by
 rcases g with ⟨kvs,k,e,ey,l⟩ | ⟨kvs,k,b,e,ey,eb,l⟩
 ·subst ey
  obtain ⟨z,hd,vs,rel,dd⟩:=jt2 I.hok e
  refine wpAny_in_of (jt8 ry) hd dd.mapOf ?_
  rw [← (rel.val k).jg3,← l]
  exact h _ (I.tok _)
 ·subst ey
  cases (show u = Value.ref b from ry)
  obtain ⟨z,hd,xs,rel,dd⟩:=jux I.hok e
  refine wpAny_in_heap (tupleKind_room_in1 hu) (jm5 I.hok eb) hd dd ?_
  have q:=(rel.val k).jg3
  rw [Option.isSome_map] at q
  rw [← q,← l]
  exact h _ (I.tok _)
theorem j29 {Q:Value → Shared → Prop} (hu:A.units + 1 < cLine) (I:Inv X pins σ H s) (g:jz7 H a y o) (ry:RelV y u) (h : ∀ s',Inv X pins σ H s' → Q (.bool (!o.isSome)) s') :
  wpAny (model X.prog X.w) A (compareOp .NotIn u (.ref a)) Q E s:=by
 rcases g with ⟨kvs,k,e,ey,l⟩ | ⟨kvs,k,b,e,ey,eb,l⟩
 ·subst ey
  obtain ⟨z,hd,vs,rel,dd⟩:=jt2 I.hok e
  refine wpAny_notIn_of (jt8 ry) hd dd.mapOf ?_
  rw [← (rel.val k).jg3,← l]
  exact h _ (I.tok _)
 ·subst ey
  cases (show u = Value.ref b from ry)
  obtain ⟨z,hd,xs,rel,dd⟩:=jux I.hok e
  refine wpAny_notIn_heap (tupleKind_room_in1 hu) (jm5 I.hok eb) hd dd ?_
  have q:=(rel.val k).jg3
  rw [Option.isSome_map] at q
  rw [← q,← l]
  exact h _ (I.tok _)
theorem jop {h':Heap} {t':Nat} {ob:HO} (I:Inv X pins σ H s) (mu:Mut (H a)) (hs:Heap.SameBut a s.heap h') (he : ∃ q,h'.get? a = some q) (new:we X.prog X.w (upd H a ob) h' a ob) :
  Inv X pins σ (upd H a ob) { s with heap:=h',toks:=t' }:=
 I.write (x:=a) (e:=a) mu (.inl rfl) (fun b q hb z=>(hs.2 b hb).trans z) he new
theorem j1l {P:Program} {w:World} {H':Hp} {h':Heap} {kvs:List (Key × V)} {vs:List (Key × Value)} (z:kvs.length ≤ sizeLine) (hd:(a == sysModules) = false) (rel:KV kvs vs) (dd:h'.DictOf (zf P w) a vs) :
  we P w H' h' a (.dK kvs):=⟨z,hd,vs,rel,dd⟩
theorem jxw {H':Hp} {Q:Unit → Shared → Prop} (hu:A.units + 1 < cLine) (I:Inv X pins σ H s) (g:jwx H a y v H') (ry:RelV y u) (rv:RelV v r) (h : ∀ s',Inv X pins σ H' s' → Q () s') :
  wpAny (model X.prog X.w) A (setItem (.ref a) u r) Q E s:=by
 rcases g with ⟨kvs,k,e,ey,l,eH⟩ | ⟨kvs,k,b,e,ey,eb,l,eH⟩
 ·subst ey eH
  obtain ⟨z,hd,vs,rel,dd⟩:=j45 I.hok e
  have hz:vs.length ≤ sizeLine:=by rw [← rel.length]; exact z
  have hl:(putK kvs k v).length ≤ sizeLine:=by have:=jcj kvs k v; omega
  refine wpAny_setItem_pairs (hsz:=hz) (jt8 ry) dd fun h' dd' hs=>h _ ?_
  have he : ∃ q,h'.get? a = some q:=let ⟨q,_,_,hq,_⟩:=dd'; ⟨q,hq⟩
  exact jop I (by rw [e]; exact True.intro) hs he (j1l hl hd (rel.put k rv) dd')
 ·subst ey eH
  cases (show u = Value.ref b from ry)
  obtain ⟨z,hd,xs,rel,dd⟩:=j2r I.hok e
  have hz:xs.length ≤ sizeLine:=by rw [← Paired.length rel]; exact z
  have hl:(putK kvs k v).length ≤ sizeLine:=by have:=jcj kvs k v; omega
  refine wpAny_setItem_heap (hsz:=hz) (tupleKind_room_in1 hu) (jm5 I.hok eb) dd fun h' dd' hs=>h _ ?_
  obtain ⟨q,es,ep,hq,h2,h3,h4,_,h5⟩:=dd'
  refine jop I (by rw [e]; exact True.intro) hs ⟨q,hq⟩ ⟨hl,hd,_,(rel.put k eb rv).keeps fun c ys ec=>?_,q,es,ep,hq,h2,h3,h4,h5⟩
  rw [je (jlw ec e (fun z=>nomatch z))]
  exact ec
end
section
variable {X:Cx} {pins:List (Addr × Obj)} {σ : St} {H:Hp} {s:Shared} {a:Addr} {kvs:List (Key × V)} {k:Key} {u:Value} {A:Around} {E:Value → Shared → Prop}
end
def j65 (i:Expr) : Prop:=∀ ov iv,subscripted i false ov iv = operate [ov,iv] (getItem ov iv)
theorem j2c {prog:Program} {w:World} {A:Around} {E:Value → Shared → Prop} {s:Shared} {env:Env} {value slice:Expr} {pos:Pos} {T id:String} {Q:Value → Shared → Prop}
  (hl:typeLookup (.type T) "__getitem__" = pure (some (.builtin id))) (hs:j65 slice)
  (h:wpAny (model prog w) A (eval value env) (fun o s₁=>wpAny (model prog w) A (eval slice env) (fun i s₂=>s₂.TypeIs o T ∧ wpAny (model prog w) A (getItem o i) Q E s₂) E s₁) E s) :
  wpAny (model prog w) A (eval (.Subscript value slice pos) env) Q E s:=by
 refine Subscript_ (wpAny_mono h (fun o s₁ h₁=>wpAny_mono h₁ (fun i s₂ h₂=>?_) fun _ _ x=>x) fun _ _ x=>x)
 obtain ⟨hT,h₂⟩:=h₂
 unfold subscriptTail
 refine wpAny_bind ?_
 rw [getitemInPython_of_ne hT.not_modules]
 refine wpAny_bind (wpAny_specialOf hT hl ?_)
 have fin:wpAny (model prog w) A (subscripted slice false o i) (fun r s₃=>wpAny (model prog w) A (letTemporaryGo value o r >>= fun _=>pure r) Q E s₃) E s₂:=by
  rw [hs o i]
  exact wpAny_operating (wpAny_mono h₂ (fun r s₃ h₃=>wpAny_bind (wpAny_letTemporaryGo (wpAny_pure h₃))) fun _ _ x=>x)
 first
  | exact wpAny_pure (wpAny_bind fin)
  | exact wpAny_bind (wpAny_pure (wpAny_bind fin))
  | exact wpAny_bind fin
theorem jup {X:Cx} {pins:List (Addr × Obj)} {σ : St} {H:Hp} {s:Shared} {a:Addr} {y:V} {o:Option V} (I:Inv X pins σ H s) (g:jz7 H a y o) : s.TypeIs (.ref a) "dict" := by
 rcases g with ⟨kvs,k,e,_,_⟩ | ⟨kvs,k,b,e,_,_,_⟩
 ·obtain ⟨_,_,vs,_,dd⟩:=jt2 I.hok e
  exact dd.typeIs
 ·obtain ⟨_,_,xs,_,dd⟩:=jux I.hok e
  exact dd.typeIs
def j6c (td ty:TE) : TE:=fun σ H Q=>td σ H fun x H1=>ty σ H1 fun y H2=>∃ a v,x = .ref a ∧ jz7 H2 a y (some v) ∧ Q v H2
def j8c (ty td:TE) : TE:=fun σ H Q=>ty σ H fun y H1=>td σ H1 fun x H2=>∃ a o,x = .ref a ∧ jz7 H2 a y o ∧ Q (.bl o.isSome) H2
def j2i (ty td:TE) : TE:=fun σ H Q=>ty σ H fun y H1=>td σ H1 fun x H2=>∃ a o,x = .ref a ∧ jz7 H2 a y o ∧ Q (.bl (!o.isSome)) H2
def j6u (td ty tv:TE) : TS:=fun D σ H=>tv σ H fun v H1=>td σ H1 fun x H2=>ty σ H2 fun y H3=>∃ a H4,x = .ref a ∧ jwx H3 a y v H4 ∧ D.nx σ H4
section
variable {X:Cx} {o i e value:Expr} {pos pos' tpos:Pos} {td ty tv:TE}
theorem jx8 (hu:X.A.units + 1 < cLine) (ho:PE X o td) (hi:PE X i ty) (hs:j65 i) : PE X (.Subscript o i pos) (j6c td ty):=by
 intro pins s σ H Q I h
 refine j2c PySem.F.slot_dict_getitem.lookup hs (thn (ho pins s σ H _ I h) fun u s1 ⟨x,H1,I1,rx,q1⟩=>thn (hi pins s1 σ H1 _ I1 q1) fun iv s2 ⟨y,H2,I2,ry,a,v,ex,g,q2⟩=>?_)
 subst ex
 obtain rfl:u = Value.ref a:=rx
 exact ⟨jup I2 g,jyn hu I2 g ry fun w' s3 I3 rw'=>⟨v,H2,I3,rw',q2⟩⟩
theorem j4b (hu:X.A.units + 1 < cLine) (hi:PE X i ty) (ho:PE X o td) : PC X .In i o (j8c ty td):=by
 intro pins s σ H Q I h
 refine thn (hi pins s σ H _ I h) fun iv s1 ⟨y,H1,I1,ry,q1⟩=>thn (ho pins s1 σ H1 _ I1 q1) fun u s2 ⟨x,H2,I2,rx,a,ov,ex,g,q2⟩=>?_
 subst ex
 obtain rfl:u = Value.ref a:=rx
 exact j79 hu I2 g ry fun s3 I3=>⟨.bl ov.isSome,H2,I3,rfl,q2⟩
theorem jog (hu:X.A.units + 1 < cLine) (hi:PE X i ty) (ho:PE X o td) : PC X .NotIn i o (j2i ty td):=by
 intro pins s σ H Q I h
 refine thn (hi pins s σ H _ I h) fun iv s1 ⟨y,H1,I1,ry,q1⟩=>thn (ho pins s1 σ H1 _ I1 q1) fun u s2 ⟨x,H2,I2,rx,a,ov,ex,g,q2⟩=>?_
 subst ex
 obtain rfl:u = Value.ref a:=rx
 exact j29 hu I2 g ry fun s3 I3=>⟨.bl (!ov.isSome),H2,I3,rfl,q2⟩
theorem jyf (hu:X.A.units + 1 < cLine) (ho:PE X o td) (hi:PE X i ty) (hv:PE X value tv) (hs:swapsWith value (some (.Subscript o i pos')) pos.line X.env = pure false) :
  PS X (.Assign [.Subscript o i pos'] value pos) (j6u td ty tv):=by
 intro pins s σ H D I h
 refine wpAny_Assign_Subscript (thn (hv pins s σ H _ I h) fun r s1 ⟨v,H1,I1,rv,q1⟩=>thn (ho pins s1 σ H1 _ I1 q1) fun u s2 ⟨x,H2,I2,rx,q2⟩=>thn (hi pins s2 σ H2 _ I2 q2) fun iv s3 ⟨y,H3,I3,ry,a,H4,ex,g,q3⟩=>?_) hs
 subst ex
 obtain rfl:u = Value.ref a:=rx
 exact jxw hu I3 g ry rv fun s4 I4=>⟨σ,H4,I4,q3⟩
end
theorem jz5 {P:Program} {w:World} {H:Hp} (h:Heap) (hb:sysModules < h.objs.size) : we P w H (h.push { cls:=.type "dict",data:=.dict #[] }) h.objs.size (.dK []):=
 ⟨Nat.zero_le _,beq_eq_false_iff_ne.mpr (Ne.symm (Nat.ne_of_lt hb)),[],.nil,Heap.DictOf.new h⟩
theorem jvf {P:Program} {w:World} {H:Hp} (h:Heap) (hb:sysModules < h.objs.size) : we P w H (h.push { cls:=.type "dict",data:=.dict #[] }) h.objs.size (.dT []):=
 ⟨Nat.zero_le _,beq_eq_false_iff_ne.mpr (Ne.symm (Nat.ne_of_lt hb)),[],.nil,_,#[],0,Heap.get?_push_size _ rfl,⟨rfl,rfl,rfl⟩,rfl,rfl,List.nodup_nil⟩
def j32:TE:=fun _ H Q=>∀ p,H p = none → Q (.ref p) (upd H p (.dT []))
section
variable {X:Cx} {pos:Pos}
theorem jrm:PE X (.Dict [] [] pos) j32:=fun pins s σ H Q I h=>
 wpAny_Dict_empty ⟨.ref s.heap.objs.size,_,I.laid (a:=s.heap.objs.size) (o:=.dT []) (t':=s.toks) (fun _ _ q=>Heap.get?_push_of_some _ q) (Nat.le_refl _) (jvf s.heap I.big),rfl,h _ (I.hok.fresh (Nat.le_refl _))⟩
end
structure M2 (X:Cx) (o:Expr) (m:Str) (apos:Pos) (e f:Expr) (cpos:Pos) : Prop where
 base:attributeBase o m X.env (eval o X.env) = eval o X.env
 few:((backTo cpos (starEach [e,f] X.env)).all (fun x=>!x.1) && (backToKw cpos (keywordEach [] X.env)).all (fun x=>x.1.isSome)
  && decide (([e,f] : List Expr).length + ([] : List Keyword).length + (if ([] : List Keyword).isEmpty then 0 else 1) < 30)) = true
 line:(apos.endLine == cpos.line) = true
 trees:backTo cpos (starEach [e,f] X.env) = [(false,eval e X.env),(false,eval f X.env)]
def IsD (H:Hp) (a:Addr) : Prop:=(∃ kvs,Rd H a (.dK kvs)) ∨ ∃ kvs,Rd H a (.dT kvs)
theorem j1f {X:Cx} {pins:List (Addr × Obj)} {σ : St} {H:Hp} {s:Shared} {a:Addr} (I:Inv X pins σ H s) (d:IsD H a) :
  s.TypeIs (.ref a) "dict" ∧ (∀ b,Value.ref a = .ref b → ∃ ob,s.heap.get? b = some ob ∧ ob.dict = none) ∧ (a == sysModules) = false:=by
 rcases d with ⟨kvs,e⟩ | ⟨kvs,e⟩
 ·obtain ⟨_,hd,vs,_,dd⟩:=jt2 I.hok e
  refine ⟨dd.typeIs,fun b q=>?_,hd⟩
  cases q
  obtain ⟨ob,_,_,h1,h2,_⟩:=dd
  exact ⟨ob,h1,h2.2.1⟩
 ·obtain ⟨_,hd,xs,_,dd⟩:=jux I.hok e
  refine ⟨dd.typeIs,fun b q=>?_,hd⟩
  cases q
  obtain ⟨ob,_,_,h1,h2,_⟩:=dd
  exact ⟨ob,h1,h2.2.1⟩
section
variable {X:Cx} {pins:List (Addr × Obj)} {σ : St} {H:Hp} {s:Shared} {a:Addr} {y d:V} {u r:Value} {o:Option V} {A:Around} {E:Value → Shared → Prop}
theorem j34 {Q:Value → Shared → Prop} (hu:A.units + 1 < cLine) (I:Inv X pins σ H s) (g:jz7 H a y o) (ry:RelV y u) (rd:RelV d r) (h : ∀ w' s',Inv X pins σ H s' → RelV (o.getD d) w' → Q w' s') :
  wpAny (model X.prog X.w) A (call (.builtin "dict.get") [.ref a,u,r]) Q E s:=by
 rcases g with ⟨kvs,k,e,ey,l⟩ | ⟨kvs,k,b,e,ey,eb,l⟩
 ·subst ey
  obtain ⟨z,hd,vs,rel,dd⟩:=jt2 I.hok e
  refine call_meetsIn PySem.F.slot_dict_get dd.typeIs PySem.F.entry_dict_get (PySem.F.args_dict_get_3 _ _ _) (meets_dict_get_default (zf X.prog X.w) a (jt8 ry) hd r) ⟨_,dd.mapOf,h _ _ (I.tok _) ?_⟩
  rw [l]
  exact (rel.val k).getD rd
 ·subst ey
  cases (show u = Value.ref b from ry)
  obtain ⟨z,hd,xs,rel,dd⟩:=jux I.hok e
  refine call_meetsIn PySem.F.slot_dict_get dd.typeIs PySem.F.entry_dict_get (PySem.F.args_dict_get_3 _ _ _) (meetsH_dict_get_default (tupleKind (zf X.prog X.w)) a b hd r) ⟨tupleKind_room_in1 hu,k,xs,jm5 I.hok eb,dd,h _ _ (I.tok _) ?_⟩
  rw [l]
  exact (rel.val k).getD rd
end
def j3w (td ty tx:TE) : TE:=fun σ H Q=>td σ H fun x H1=>∃ a,x = .ref a ∧ IsD H1 a ∧ ty σ H1 fun y H2=>tx σ H2 fun z H3=>∃ o,jz7 H3 a y o ∧ Q (o.getD z) H3
section
variable {X:Cx} {o e f:Expr} {apos cpos:Pos} {td ty tx:TE}
theorem j0v (hu:X.A.units + 1 < cLine) (ho:PE X o td) (he:PE X e ty) (hf:PE X f tx) (m:M2 X o "get" apos e f cpos) : PE X (.Call (.Attribute o "get" apos) [e,f] [] cpos) (j3w td ty tx):=by
 intro pins s σ H Q I h
 refine wpAny_Call_method m.base m.few m.line PySem.F.plainAttrs_dict PySem.F.slot_dict_get PySem.F.type_dict_get (thn (ho pins s σ H _ I h) fun u s1 ⟨x,H1,I1,rx,a,ex,d,q1⟩=>?_)
 subst ex
 obtain rfl:u = Value.ref a:=rx
 obtain ⟨t1,t2,_⟩:=j1f I1 d
 refine ⟨t1,t2,?_⟩
 rw [m.trees]
 refine Calls.callWith_builtin rfl (Calls.evalArgs_plain (Calls.spliced_cons (thn (he pins s1 σ H1 _ I1 q1) fun iv s2 ⟨y,H2,I2,ry,q2⟩=>
  Calls.spliced_cons (thn (hf pins s2 σ H2 _ I2 q2) fun fv s3 ⟨z,H3,I3,rz,ov,g,q3⟩=>Calls.spliced_nil ?_))))
 exact j34 hu I3 g ry rz fun w' s4 I4 rw'=>⟨_,H3,I4,rw',q3⟩
end
section
variable {X:Cx} {pins:List (Addr × Obj)} {σ : St} {H:Hp} {s:Shared} {a:Addr} {kvs:List (Key × V)} {A:Around} {E:Value → Shared → Prop}
end
section
variable {X:Cx} {pins:List (Addr × Obj)} {σ : St} {H:Hp} {s:Shared} {a:Addr} {y:V} {u:Value} {A:Around} {E:Value → Shared → Prop}
end
end L2
namespace Att
open PySem PySem.W PySem.Calls PyProof.Rows
section
variable {prog:Program} {w:World} {A:Around} {E:Value → Shared → Prop} {s:Shared} {K:Frag}
end
end Att
namespace L2
open PySem PySem.Spec PyProof.Rows
end L2
namespace L2
open PySem PySem.Spec PyProof.Rows
end L2
namespace L2
open PySem PySem.Spec PyProof.Rows
section
variable {P:Program} {w:World} {K:PySem.W.Frag} {mg:Str → Option Value} {base:Heap}
end
section
variable {X:Cx}
end
section
variable {κ : Type} [DecidableEq κ]
theorem j2o {kvs:List (κ × V)} {k : κ} {v:V} (h:jgm kvs k = some v) : k ∈ kvs.map (·.1):=by
 have q:(kvs.any fun kv=>decide (kv.1 = k)) = true:=by
  rw [jn6,h]
  all_goals rfl
 obtain ⟨p,hp,e⟩:=List.any_eq_true.mp q
 exact List.mem_map.mpr ⟨p,hp,of_decide_eq_true e⟩
end
end L2
namespace L2
open PySem PySem.Spec PyProof.Rows
def jwa (scope:Scope) (env:Env) : List (Str × Addr):=
 (scope.names.filterMap fun p=>if p.2 = NameKind.free then (env.cells.lookup p.1).map fun c=>(p.1,c) else none).reverse
theorem jhl {α : Type} {x:Str} {c : α} : ∀ {l:List (Str × α)},l.lookup x = some c → (x,c) ∈ l
 | [],h=>by simp at h
 | (y,d) :: r,h=>by
  rw [List.lookup_cons] at h
  cases e:x == y with
  | true=>
   rw [e] at h
   have h':d = c:=Option.some.inj h
   rw [h',eq_of_beq e]
   exact List.mem_cons_self
  | false=>
   rw [e] at h
   exact List.mem_cons_of_mem _ (jhl h)
theorem jmx {α : Type} {x:Str} {c : α} : ∀ {l:List (Str × α)},(x,c) ∈ l → ∃ d,l.lookup x = some d
 | [],h=>by simp at h
 | (y, d) :: r,h=>by
  rw [List.lookup_cons]
  cases e:x == y with
  | true=>exact ⟨d,rfl⟩
  | false=>
   rcases List.mem_cons.mp h with z | z
   ·have z1:x = y:=congrArg Prod.fst z
    rw [z1,beq_self_eq_true] at e
    cases e
   ·exact jmx z
theorem ju8 {scope:Scope} {env:Env} {x:Str} {c:Addr} : (x,c) ∈ jwa scope env ↔ (x,NameKind.free) ∈ scope.names ∧ env.cells.lookup x = some c:=by
 unfold jwa
 rw [List.mem_reverse,List.mem_filterMap]
 constructor
 ·rintro ⟨⟨y,k⟩,hm,e⟩
  by_cases hk:k = NameKind.free
  ·subst hk
   rw [if_pos rfl] at e
   cases q:env.cells.lookup y with
   | none=>rw [q] at e; cases e
   | some d=>
    rw [q] at e
    have e':(y,d) = (x,c):=Option.some.inj e
    cases e'
    exact ⟨hm,q⟩
  ·rw [if_neg hk] at e
   cases e
 ·rintro ⟨hm,q⟩
  exact ⟨(x,NameKind.free),hm,by rw [if_pos rfl]; rw [q]; rfl⟩
theorem jaf {scope:Scope} {env:Env} {x:Str} {c:Addr} (h:(jwa scope env).lookup x = some c) : env.cells.lookup x = some c:=(ju8.mp (jhl h)).2
theorem jrf {scope:Scope} {env:Env} {x:Str} {c:Addr} (hm:(x,NameKind.free) ∈ scope.names) (h:env.cells.lookup x = some c) : (jwa scope env).lookup x = some c:=by
 obtain ⟨d,e⟩:=jmx (ju8.mpr ⟨hm,h⟩)
 rw [e,← h]
 exact (jaf e).symm
theorem jmg {env:Env} : ∀ (names:List (Str × NameKind)) (cs:List (Str × Addr)),(∀ p ∈ names,p.2 = .free → ∃ c,env.cells.lookup p.1 = some c) →
  (forIn names cs fun (x:Str × NameKind) (cs:List (Str × Addr))=>(match x with
   | (name,kind)=>if (kind == .free) = true then (do let a ← cellOf env name; pure (ForInStep.yield ((name,a) :: cs))) else pure (ForInStep.yield cs) : Sem (ForInStep (List (Str × Addr)))))
   = pure ((names.filterMap fun p=>if p.2 = NameKind.free then (env.cells.lookup p.1).map fun c=>(p.1,c) else none).reverse ++ cs)
 | [],cs,_=>rfl
 | (n,k) :: r,cs,h=>by
  rw [List.forIn_cons]
  have hr : ∀ p ∈ r,p.2 = .free → ∃ c,env.cells.lookup p.1 = some c:=fun p hp=>h p (List.mem_cons_of_mem _ hp)
  by_cases hk:k = NameKind.free
  ·subst hk
   obtain ⟨c,hc⟩:=h (n,.free) List.mem_cons_self rfl
   have e1:cellOf env n = pure c:=by unfold cellOf; rw [show env.cells.lookup n = some c from hc]
   show ((do let a ← cellOf env n; pure (ForInStep.yield ((n,a) :: cs)) : Sem (ForInStep (List (Str × Addr)))) >>= _) = _
   rw [e1]
   simp only [pure_bind]
   rw [jmg r ((n,c) :: cs) hr,List.filterMap_cons,if_pos rfl,show env.cells.lookup n = some c from hc]
   simp
  ·have hb:(k == NameKind.free) = false:=by simpa using hk
   show ((if (k == NameKind.free) = true then (do let a ← cellOf env n; pure (ForInStep.yield ((n,a) :: cs))) else pure (ForInStep.yield cs) : Sem (ForInStep (List (Str × Addr)))) >>= _) = _
   rw [hb,if_neg Bool.false_ne_true]
   simp only [pure_bind]
   rw [jmg r cs hr,List.filterMap_cons,if_neg hk]
theorem jwo {scope:Scope} {env:Env} (h : ∀ p ∈ scope.names,p.2 = .free → ∃ c,env.cells.lookup p.1 = some c) : closureFor scope env = pure (jwa scope env):=by
 have e:=jmg scope.names [] h
 rw [List.append_nil] at e
 unfold closureFor jwa
 simp only [bind_pure]
 exact e
theorem gk {env:Env} {x:Str} : ∀ {names:List (Str × NameKind)} {k:NameKind},
  (names.map fun (n,k)=>if (k == NameKind.free && env.scope.kind == .function && env.kindOf n == some .cell) then (n,NameKind.cell) else (n,k)).lookup x = some k →
   ∃ k',(x,k') ∈ names ∧ (k' = k ∨ (k' = .free ∧ k = .cell))
 | [],_,h=>by simp at h
 | (n, j) :: r,k,h=>by
  by_cases hc:(j == NameKind.free && env.scope.kind == .function && env.kindOf n == some .cell) = true
  ·rw [List.map_cons] at h
   have h':List.lookup x ((if (j == NameKind.free && env.scope.kind == .function && env.kindOf n == some .cell) = true then (n,NameKind.cell) else (n,j)) :: _) = some k:=h
   rw [if_pos hc,List.lookup_cons] at h'
   cases e:x == n with
   | true=>
    rw [e] at h'
    have h2:NameKind.cell = k:=Option.some.inj h'
    have hj:j = NameKind.free:=by
     have:=hc
     rw [Bool.and_eq_true,Bool.and_eq_true] at this
     exact eq_of_beq this.1.1
    exact ⟨j,by rw [eq_of_beq e]; exact List.mem_cons_self,.inr ⟨hj,h2.symm⟩⟩
   | false=>
    rw [e] at h'
    obtain ⟨k',hm,q⟩:=gk h'
    exact ⟨k',List.mem_cons_of_mem _ hm,q⟩
  ·rw [List.map_cons] at h
   have h':List.lookup x ((if (j == NameKind.free && env.scope.kind == .function && env.kindOf n == some .cell) = true then (n,NameKind.cell) else (n,j)) :: _) = some k:=h
   rw [if_neg hc,List.lookup_cons] at h'
   cases e:x == n with
   | true=>
    rw [e] at h'
    exact ⟨j,by rw [eq_of_beq e]; exact List.mem_cons_self,.inl (Option.some.inj h')⟩
   | false=>
    rw [e] at h'
    obtain ⟨k',hm,q⟩:=gk h'
    exact ⟨k',List.mem_cons_of_mem _ hm,q⟩
def j1d (N:List Str) (sc scope:Scope) (N':List Str) (ix:List (Option Nat)) : Bool:=
 scope.kind == .function && scope.names.all (fun y=>y.2 != .cell) && scope.names.all (fun y=>y.2 != .local || scope.names.lookup y.1 == some .local) &&
 scope.names.all (fun y=>y.2 != .free || sc.names.lookup y.1 == some .cell || sc.names.lookup y.1 == some .free) &&
 decide (ix.length = N'.length) && decide N'.Nodup &&
 (N'.zip ix).all fun p=>match p.2 with
  | none=>scope.names.all fun y=>y.1 != p.1 || y.2 == .local
  | some k=>N[k]? == some p.1 && scope.names.lookup p.1 == some .free && scope.names.all fun y=>y.1 != p.1 || y.2 == .free
structure ji1 (N:List Str) (sc scope:Scope) (N':List Str) (ix:List (Option Nat)) : Prop where
 kind:scope.kind = .function
 jxq : ∀ y ∈ scope.names,y.2 ≠ .cell
 names : ∀ y ∈ scope.names,y.2 = .local → scope.names.lookup y.1 = some .local
 frees : ∀ y ∈ scope.names,y.2 = .free → sc.names.lookup y.1 = some .cell ∨ sc.names.lookup y.1 = some .free
 len:ix.length = N'.length
 nd:N'.Nodup
 own : ∀ (i:Nat) (x:Str),N'[i]? = some x → ix[i]? = some none → ∀ y ∈ scope.names,y.1 = x → y.2 = .local
 out : ∀ (i:Nat) (x:Str) (k:Nat),N'[i]? = some x → ix[i]? = some (some k) → N[k]? = some x ∧ (x,NameKind.free) ∈ scope.names ∧ ∀ y ∈ scope.names,y.1 = x → y.2 = .free
theorem gh {N:List Str} {sc scope:Scope} {N':List Str} {ix:List (Option Nat)} (h:j1d N sc scope N' ix = true) : ji1 N sc scope N' ix:=by
 unfold j1d at h
 simp only [Bool.and_eq_true,List.all_eq_true,Bool.or_eq_true,bne_iff_ne,beq_iff_eq,decide_eq_true_eq,ne_eq] at h
 obtain ⟨⟨⟨⟨⟨⟨h1,h2⟩,h3⟩,h4⟩,h5⟩,h6⟩,h7⟩:=h
 have zipAt : ∀ {i:Nat} {x:Str} {o:Option Nat},N'[i]? = some x → ix[i]? = some o → (x,o) ∈ N'.zip ix:=fun {i x o} a b=>by
  refine List.mem_of_getElem? (i:=i) ?_
  rw [List.getElem?_zip_eq_some]
  exact ⟨a,b⟩
 refine ⟨h1,fun y hy=>h2 y hy,fun y hy e=>?_,fun y hy e=>?_,h5,h6,fun i x a b y hy e=>?_,fun i x k a b=>?_⟩
 ·rcases h3 y hy with z | z
  ·exact absurd e z
  ·exact z
 ·rcases h4 y hy with (z | z) | z
  ·exact absurd e z
  ·exact .inl z
  ·exact .inr z
 ·have q:=h7 _ (zipAt a b)
  simp only [List.all_eq_true,Bool.or_eq_true,bne_iff_ne,beq_iff_eq,ne_eq] at q
  rcases q y hy with z | z
  ·exact absurd e z
  ·exact z
 ·have q:=h7 _ (zipAt a b)
  simp only [Bool.and_eq_true,List.all_eq_true,Bool.or_eq_true,bne_iff_ne,beq_iff_eq,ne_eq] at q
  obtain ⟨⟨q1,q2⟩,q3⟩:=q
  refine ⟨q1,jhl q2,fun y hy e=>?_⟩
  rcases q3 y hy with z | z
  ·exact absurd e z
  ·exact z
def jns (ix:List (Option Nat)) (σ : St) : St:=ix.map fun o=>match o with
 | some k=>(σ[k]?).join
 | none=>none
def blk (X:Cx) (scope:Scope) (N':List Str) (C:Addr) (fp:List Addr) (s₂:Shared) (H₂:Hp) : Cx:=
 { X with N:=N',s₀:=s₂,H₀:=H₂,env:=compEnvC scope (jwa scope X.env) C X.env,outer:=X.stack,stack:=X.stack,ex:=fp,fn:=fun _=>false,pn:=[],xe:=fun _ _=>False }
abbrev jsh (its:List Value) (n:Nat) : Obj:={ cls:=.type "list",data:=.seq its.toArray n }
section
variable {X:Cx} {scope:Scope} {N':List Str} {ix:List (Option Nat)} {C:Addr} {fp:List Addr} {s₂:Shared} {H₂:Hp} {pins:List (Addr × Obj)} {σ : St}
theorem jxu (I:Inv X pins σ H₂ s₂) {x:Str} {c:Addr} (h:(jwa scope X.env).lookup x = some c) : c < s₂.heap.objs.size:=by
 obtain ⟨v,q⟩:=I.cell x c (jaf h)
 exact q.lt
theorem j04 (I:Inv X pins σ H₂ s₂) (co:ji1 X.N X.env.scope scope N' ix) (hC : @LE.le Nat _ s₂.heap.objs.size C) (hf : ∀ b ∈ fp,jt0 X pins H₂ b) (hlt : ∀ b ∈ fp,b < s₂.heap.objs.size) : (blk X scope N' C fp s₂ H₂).Ok where
 mod:=I.ok.mod
 kind:=co.kind
 glob:=I.ok.glob
 blt:=I.ok.blt
 above:=hC
 inj:=fun x y c e1 e2=>I.ok.inj x y c (jaf e1) (jaf e2)
 has := fun x h=>by
  have h1 : ∃ k,(relabel scope X.env).names.lookup x = some k ∧ (k = .cell ∨ k = .free):=by
   rcases h with h | h
   ·exact ⟨_,h,.inl rfl⟩
   ·exact ⟨_,h,.inr rfl⟩
  obtain ⟨k,h1,h2⟩:=h1
  obtain ⟨k',hm,q⟩:=gk h1
  have hk:k' = .free:=by
   rcases q with q | ⟨q,_⟩
   ·rcases h2 with z | z
    ·exact absurd (q.trans z) (co.jxq _ hm)
    ·exact q.trans z
   ·exact q
  rw [hk] at hm
  obtain ⟨c,hc⟩:=I.ok.has x (co.frees _ hm rfl)
  exact ⟨c,jrf hm hc⟩
 cab:=fun x c h=>by
  have h':false = true:=h
  cases h'
 hd:=I.ok.hd
 frames:=I.ok.frames
 stk:=.inl rfl
 exf:=fun b hb=>⟨Nat.ne_of_lt (Nat.lt_of_lt_of_le (hlt b hb) hC),fun x c e=>(hf b hb).2.2.2.2.1 x c (jaf e)⟩
 bs:=I.bs
 bsz:=Nat.le_trans I.ok.bsz I.sz
 j2s:=fun b o e hb=>by
  rcases (hf b hb).2.2.2.1 with z | z
  ·exact I.ok.j2s b o e z
  ·exact absurd (Nat.lt_of_lt_of_le (Heap.lt_size (I.ok.bs b o e).1) z) (Nat.lt_irrefl _)
 j3r:=fun b hb z=>by
  rcases List.mem_cons.mp (I.jpt b z) with e | e
  ·exact (hf b hb).2.1 e
  ·exact (hf b hb).2.2.1 e
 jt1:=I.stack
 frf:=I.jr0
theorem jzj (I:Inv X pins σ H₂ s₂) {b:Addr} (h:s₂.heap.objs.size ≤ b) : b ∉ frs X.stack:=fun z=>by
 rcases List.mem_cons.mp (I.jpt b z) with e | e
 ·rw [e] at h; exact absurd (Nat.lt_of_lt_of_le I.lt h) (Nat.lt_irrefl _)
 ·exact I.j7h h e
theorem jwy (I:Inv X pins σ H₂ s₂) (co:ji1 X.N X.env.scope scope N' ix) {D:Addr} {h₁:Heap} {t':Nat} (hD : @Eq Nat D s₂.heap.objs.size) (hC : @Eq Nat C (s₂.heap.objs.size + 1)) (hf : ∀ b ∈ fp,jt0 X pins H₂ b) (hlt : ∀ b ∈ fp,b < s₂.heap.objs.size)
  (old : ∀ b o,s₂.heap.get? b = some o → h₁.get? b = some o) (hacc:h₁.get? D = some (jsh [] 0)) {m:Str → Option Value} (hns:h₁.Ns C m) :
  Inv (blk X scope N' C fp s₂ H₂) [(D,jsh [] 0)] (jns ix σ) H₂ { s₂ with heap:=h₁,toks:=t' } where
 ok:=j04 I co (by omega) hf hlt
 os:=rfl
 bare:=I.bare
 base:=Un.kept old
 loc := by
  refine ⟨m,hns,fun i x v e1 e2 e3=>?_⟩
  unfold jns at e2
  rw [List.getElem?_map] at e2
  cases q:ix[i]? with
  | none=>rw [q] at e2; cases e2
  | some o=>
   rw [q] at e2
   cases o with
   | none=>cases e2
   | some k=>
    have e2':(σ[k]?).join = some v:=Option.some.inj e2
    have e2'' : σ[k]? = some (some v):=by
     cases z : σ[k]? with
     | none=>rw [z] at e2'; cases e2'
     | some o=>rw [z] at e2'; exact congrArg some e2'
    obtain ⟨o1,o2,o3⟩:=co.out i x k e1 q
    have hk:X.env.kindOf x = some .cell ∨ X.env.kindOf x = some .free:=co.frees _ o2 rfl
    have vis:Vis X.env.scope x:=.inr hk
    obtain ⟨m0,_,hl⟩:=I.loc
    obtain ⟨u,r,l⟩:=hl k x v o1 e2'' vis
    refine ⟨u,r,?_⟩
    rcases l with ⟨l,_⟩ | ⟨_,c,ec,hcell⟩
    ·rcases hk with z | z
     ·rw [z] at l; cases l
     ·rw [z] at l; cases l
    ·refine .inr ⟨?_,c,jrf o2 ec,?_⟩
     ·rcases e3 with z | z | z
      ·obtain ⟨k',hm,q⟩:=gk z
       rcases q with q | ⟨_,q⟩
       ·have:=o3 _ hm rfl
        rw [show k' = NameKind.local from q] at this
        cases this
       ·cases q
      ·exact .inl z
      ·exact .inr z
     ·obtain ⟨o,ho,hd⟩:=hcell
      exact ⟨o,old _ _ ho,hd⟩
 cell:=fun x c e=>by
  obtain ⟨v,o,ho,hd⟩:=I.cell x c (jaf e)
  exact ⟨v,o,old _ _ ho,hd⟩
 free:=I.hok.fresh (by show @LE.le Nat _ s₂.heap.objs.size C; omega)
 jfe:=fun x c e=>I.jfe x c (jaf e)
 pin:=fun p hp=>by
  have e:p = (D,jsh [] 0):=by simpa [blk] using hp
  subst e
  refine ⟨hacc,I.hok.fresh (by show @LE.le Nat _ s₂.heap.objs.size D; omega),by show ¬ @Eq Nat D C; omega,jzj I (by show @LE.le Nat _ s₂.heap.objs.size D; omega),fun v z=>?_⟩
  have z':Data.seq _ _ = Data.cell v:=z
  cases z'
 hok:=I.hok.kept old
 len:=by unfold jns; rw [List.length_map]; exact co.len
theorem jxl (I:Inv X pins σ H₂ s₂) {D:Addr} (hD : @Eq Nat D s₂.heap.objs.size) (hf : ∀ b ∈ fp,jt0 X pins H₂ b) {ys:List V} {its:List Value} {n:Nat} {σ':St} {H':Hp} {s':Shared}
    (I':Inv (blk X scope N' C fp s₂ H₂) [(D,jsh its n)] σ' H' s') (hv:Vals ys its) (hz:ys.length ≤ sizeLine) : Inv X pins σ (upd H' D (.lst ys)) s':=by
  obtain ⟨dp,dn,_,_,_⟩:=I'.pin (D,jsh its n) (by simp)
  have dp':s'.heap.get? D = some (jsh its n):=dp
  have dn':H' D = none:=dn
  have u:=I'.base
  have ne : ∀ b o,s₂.heap.get? b = some o → b ≠ D:=fun b o e z=>by
    have h1 : @LT.lt Nat _ b s₂.heap.objs.size:=Heap.lt_size e
    have h2 : @Eq Nat b D:=z
    omega
  have neH : ∀ b o,H₂ b = some o → b ≠ D:=fun b o e z=>by
    have h1 : @LT.lt Nat _ b s₂.heap.objs.size:=I.hok.lt e
    have h2 : @Eq Nat b D:=z
    omega
  refine I.j25 (ch:=fp) I'.os ⟨u.keep,u.slot,fun b o e q hb=>?_,u.there,fun b xs q=>?_,fun b o xs q=>?_,fun b ps q=>?_⟩ (fun b o e=>?_) I'.bare fun b hb=>?_
  · rw [je (ne b o e)]
    exact u.free b o e q hb
  · rw [je (neH b _ q)]
    exact u.jr7 b xs q
  · rw [je (neH b _ q)]
    exact u.jrz b o xs q
  · rw [je (neH b _ q)]
    exact u.jsi b ps q
  · by_cases hb:b = D
    · subst hb
      rw [ja] at e
      cases e
      exact ⟨hz,its,n,hv,dp'⟩
    · rw [je hb] at e
      exact (I'.hok b o e).jpx (fun c v _ q=>q) (fun c q=>by rw [je (jk q dn')]; exact q) fun c xs q=>by rw [je (jk q dn')]; exact q
  · obtain ⟨_,f1,_,f3,f4,f5⟩:=hf b hb
    exact ⟨f3,f1,f4,f5⟩
end
end L2
namespace L2
open PySem PySem.Spec PyProof.Rows
abbrev NoE:Value → Shared → Prop:=fun _ _=>False
section
variable {prog:Program} {w:World} {A:Around} {R:Result → Shared → Prop} {s:Shared}
theorem jtg {elt target iter:Expr} {ifs:List Expr} {scope:Scope} {pos:Pos} {it acc:Value} {env:Env} (I:Nat → Shared → Prop)
  (turn : ∀ n s,I n s → wpAny (model prog w) A (pyNext it) (fun r s₁=>match r with
   | none=>R (.ok .next) s₁
   | some v=>wpAny (model prog w) A (letOwnedTupleGo target it v) (fun _ s₁=>wpAny (model prog w) A (assign target env v) (fun _ s₂=>
     wpAny (model prog w) A (forIn ifs true fun c r=>if r = true then do let ok ← isTrue c env (eval c env); pure (ForInStep.yield ok) else pure (ForInStep.yield r)) (fun ok s₃=>
      if ok = true then wpAny (model prog w) A (eval elt env) (fun x s₄=>
       wpAny (model prog w) A (call (.builtin "list.append") [acc,x]) (fun _ s₅=>∃ m,m < n ∧ I m s₅) NoE s₄) NoE s₃
      else ∃ m,m < n ∧ I m s₃) NoE s₂) NoE s₁) NoE s₁) NoE s)
  (n:Nat) (h:I n s) : codeAny (model prog w) A (.compLoop (.ListComp elt [⟨target,iter,ifs,0⟩] scope pos) 0 it acc env) R s:=by
 refine codeAny_loop rfl I (fun n s hI=>?_) n h
 show wpAny _ A ((compTurn (.ListComp elt [⟨target,iter,ifs,0⟩] scope pos) 0 it acc env).onRaise (fun x=>do noteFrame x env; theTreesLotGoes x)) _ _ s
 refine wpAny_noted ?_
 rw [compTurn_list]
 refine wpAny_bind (wpAny_standAt (wpAny_bind (wpAny_mono (turn n s hI) (fun r s₁ h₁=>?_) fun _ _ h'=>h'.elim)))
 cases r with
 | none=>exact wpAny_pure h₁
 | some v=>
  refine wpAny_bind (wpAny_mono h₁ (fun _ s₁ h₁=>?_) fun _ _ h'=>h'.elim)
  refine wpAny_bind (wpAny_mono h₁ (fun _ s₂ h₂=>wpAny_bind (wpAny_mono h₂ (fun ok s₃ h₃=>?_) fun _ _ h'=>h'.elim)) fun _ _ h'=>h'.elim)
  cases ok with
  | false=>exact wpAny_pure ⟨rfl,h₃⟩
  | true=>
   exact wpAny_bind (wpAny_bind (wpAny_mono h₃ (fun x s₄ h₄=>wpAny_bind (wpAny_mono h₄ (fun _ s₅ h₅=>wpAny_pure (wpAny_pure ⟨rfl,h₅⟩)) fun _ _ h'=>h'.elim)) fun _ _ h'=>h'.elim))
end
def PIf (X:Cx) (ifs:List Expr) (t:TT) : Prop:=
 ∀ (pins:List (Addr × Obj)) (s:Shared) (σ : St) (H:Hp) (Q:Bool → Hp → Prop),Inv X pins σ H s → t σ H Q →
  wpAny (model X.prog X.w) X.A (forIn ifs true fun c r=>if r = true then do let ok ← isTrue c X.env (eval c X.env); pure (ForInStep.yield ok) else pure (ForInStep.yield r)) (TP X pins σ Q) X.xe s
def j39:TT:=fun _ H Q=>Q true H
theorem jrl {X:Cx} : PIf X [] j39:=fun _ _ _ H _ I h=>wpAny_tests_nil ⟨H,I,h⟩
theorem jl4 {X:Cx} {c:Expr} {t:TT} (h:PT X c t) : PIf X [c] t:=fun pins s σ H Q I q=>wpAny_tests_one (h pins s σ H Q I q)
def jx2 (Q:VK) (ys:List V) (H:Hp) : Prop:=∀ p,H p = none → Q (.ref p) (upd H p (.lst ys))
def tLc (ix:List (Option Nat)) (wi:TI) (g:TG) (ti:TT) (te:TE) : TE:=fun σ H Q=>wi σ H fun J H1=>∃ W:Nat → Nat → List V → St → Hp → Prop,(∃ m,W 0 m [] (jns ix σ) H1) ∧ ∀ i m ys σ H,W i m ys σ H →
 ys.length ≤ sizeLine ∧ ((J.stop i H ∧ jx2 Q ys H) ∨
  (J.go i H ∧ ∃ N:List V → St → Hp → Prop,(∀ ys' σ' H',N ys' σ' H' → ∃ m',m' < m ∧ W (i + 1) m' ys' σ' H') ∧
   ∀ x H',J.yld i H x H' → g x σ H' fun σ2 H2=>ti σ2 H2 fun b H3=>if b = true then te σ2 H3 fun y H4=>N (ys ++ [y]) σ2 H4 else N ys σ2 H3))
structure j12 (X:Cx) (pins:List (Addr × Obj)) (H:Hp) (s:Shared) (C:Addr) : Prop where
 ns : ∃ m,s.heap.Ns C m
 fr:H C = none
 nl:C ≠ X.env.locals
 ab:X.s₀.heap.objs.size ≤ C
 nc : ∀ x c,X.env.cells.lookup x = some c → c ≠ C
 np : ∀ p ∈ X.pn ++ pins,p.1 ≠ C
section
variable {X:Cx}
theorem jxj {scope:Scope} {N':List Str} {ix:List (Option Nat)} {pins:List (Addr × Obj)} {σ : St} {tg iter elt:Expr} {ifs:List Expr} {pos:Pos} {g:TG} {ti:TT} {te:TE} {E:Value → Shared → Prop}
  (co:ji1 X.N X.env.scope scope N' ix) (hc:X.calm = true)
  (hg : ∀ C fp s₂ H₂,PG (blk X scope N' C fp s₂ H₂) tg g) (hi : ∀ C fp s₂ H₂,PIf (blk X scope N' C fp s₂ H₂) ifs ti) (he : ∀ C fp s₂ H₂,PE (blk X scope N' C fp s₂ H₂) elt te)
  {H₂:Hp} {s₂:Shared} {J:It} {fp:List Addr} {it:Addr} {tn:Nat → Heap → Prop} {QF:List V → Hp → Prop}
  (I:Inv X pins σ H₂ s₂) (T:Turn X.prog X.w X.K tg J fp it tn) (st:tn 0 s₂.heap) (hf : ∀ b ∈ fp,jt0 X pins H₂ b)
  {W:Nat → Nat → List V → St → Hp → Prop} (w0 : ∃ m,W 0 m [] (jns ix σ) H₂)
  (hW : ∀ i m ys σ H,W i m ys σ H → ys.length ≤ sizeLine ∧ ((J.stop i H ∧ QF ys H) ∨
   (J.go i H ∧ ∃ N:List V → St → Hp → Prop,(∀ ys' σ' H',N ys' σ' H' → ∃ m',m' < m ∧ W (i + 1) m' ys' σ' H') ∧
    ∀ x H',J.yld i H x H' → g x σ H' fun σ2 H2=>ti σ2 H2 fun b H3=>if b = true then te σ2 H3 fun y H4=>N (ys ++ [y]) σ2 H4 else N ys σ2 H3)))
  {RR:Value → Addr → Result → Shared → Prop}
  (hRR : ∀ D C ys H' s',Inv X pins σ (upd H' D (.lst ys)) s' → H' D = none → QF ys H' → j12 X pins (upd H' D (.lst ys)) s' C → RR (.ref D) C (.ok .next) s') :
  wpAny (model X.prog X.w) X.A (newList []) (fun acc s₃=>wpAny (model X.prog X.w) X.A (newFunctionEnv scope X.env.globals (jwa scope X.env) [] X.env.qual none .none (some X.env)) (fun cenv s₄=>
   codeAny (model X.prog X.w) X.A (.compStart (.ListComp elt [⟨tg,iter,ifs,0⟩] scope pos) 0 (.ref it) acc { cenv with scope:=relabel scope X.env }) (RR acc cenv.locals) s₄) E s₃) E s₂:=by
 have hlt : ∀ b ∈ fp,@LT.lt Nat _ b s₂.heap.objs.size:=fun b hb=>by
  obtain ⟨o,e,_⟩:=T.obj _ _ st b hb
  exact Heap.lt_size e
 refine wpAny_newObj_type (wpAny_newFunctionEnv co.jxq (by intro y hy; simp at hy) (fun h₁ hns₁ hsb₁=>?_) co.kind)
 dsimp only at hns₁ hsb₁ ⊢
 generalize hH2:s₂.heap.push { cls:=.type "list",dict:=none,data:=.seq ([] : List Value).toArray } = H2 at hns₁ hsb₁ ⊢
 have hC : @Eq Nat H2.objs.size (s₂.heap.objs.size + 1):=by rw [← hH2,Heap.size_push]
 have below : ∀ b:Nat,b < s₂.heap.objs.size → ¬ @Eq Nat b H2.objs.size:=fun b hb=>by omega
 have hDC : ¬ @Eq Nat s₂.heap.objs.size H2.objs.size:=by omega
 have old : ∀ b o,s₂.heap.get? b = some o → h₁.get? b = some o:=fun b o e=>hsb₁.extBut b o (below b (Heap.lt_size e)) (Heap.get?_push_of_some _ (hH2 ▸ Heap.get?_push_of_some _ e))
 have hacc:h₁.get? s₂.heap.objs.size = some (jsh [] 0):=hsb₁.extBut _ _ hDC (Heap.get?_push_of_some _ (hH2 ▸ Heap.get?_push_size _ rfl))
 have st₁:tn 0 h₁:=T.keep _ _ _ st fun b _ o e=>old b o e
 generalize hCe:H2.objs.size = C at hns₁ hsb₁ hC below hDC ⊢
 generalize hDe:s₂.heap.objs.size = D at hacc hDC ⊢
 have loop : ∀ s₃:Shared,s₃ = { s₂ with heap:=h₁,toks:=s₂.toks + ([] : List (Str × Value)).length } →
   codeAny (model X.prog X.w) X.A (.compLoop (.ListComp elt [⟨tg,iter,ifs,0⟩] scope pos) 0 (.ref it) (.ref D) (compEnvC scope (jwa scope X.env) C X.env)) (RR (.ref D) C) s₃:=by
  rintro s₃ rfl
  obtain ⟨m0,w0⟩:=w0
  have I3:Inv (blk X scope N' C fp s₂ H₂) [(D,jsh [] 0)] (jns ix σ) H₂ { s₂ with heap:=h₁,toks:=s₂.toks + ([] : List (Str × Value)).length }:=jwy I co hDe.symm hC hf hlt old hacc hns₁
  refine jtg (fun k s'=>∃ i ys its n σ' H',Inv (blk X scope N' C fp s₂ H₂) [(D,jsh its n)] σ' H' s' ∧ Vals ys its ∧ tn i s'.heap ∧ (∀ b ∈ fp,H' b = none) ∧ W i k ys σ' H') ?_ m0
   ⟨0,[],[],0,_,_,I3,.nil,st₁,fun b hb=>(hf b hb).1,w0⟩
  rintro k s' ⟨i,ys,its,n,σ',H',I',hv,st',fr',w'⟩
  have fpok : ∀ {H':Hp} {o:Obj},(∀ b ∈ fp,H' b = none) → ∀ b ∈ fp,jt0 (blk X scope N' C fp s₂ H₂) [(D,o)] H' b:=fun {H' o} hn b hb=>by
   refine ⟨hn b hb,below b (hlt b hb),fun z=>?_,.inl hb,fun x c e=>(hf b hb).2.2.2.2.1 x c (jaf e),fun p hp z=>?_⟩
   ·rcases List.mem_cons.mp (I.jpt b z) with e | e
    ·exact (hf b hb).2.1 e
    ·exact (hf b hb).2.2.1 e
   ·have e:p = (D,o):=by simpa [blk] using hp
    subst e
    have z' : @Eq Nat D b:=z
    have z2:=hlt b hb
    omega
  obtain ⟨hz,hW'⟩:=hW i k ys σ' H' w'
  rcases hW' with ⟨stop,q⟩ | ⟨go,N,hN,step⟩
  ·refine thn (T.done (blk X scope N' C fp s₂ H₂) rfl rfl rfl hc i _ s' σ' H' NoE I' (fpok fr') st' stop) fun r s4 ⟨hr,I4⟩=>?_
   subst hr
   obtain ⟨_,dn,_⟩:=I4.pin (D,jsh its n) (by simp)
   have cf:H' C = none:=I4.free
   refine hRR D C ys H' s4 (jxl I hDe.symm hf I4 hv hz) dn q ⟨?_,by rw [je (Ne.symm hDC)]; exact cf,?_,?_,fun x c e=>?_,fun p hp=>?_⟩
   ·obtain ⟨m,hn,_⟩:=I4.loc
    exact ⟨m,hn⟩
   ·have z : @LT.lt Nat _ X.env.locals s₂.heap.objs.size:=I.lt
    show ¬ @Eq Nat C X.env.locals
    omega
   ·have z : @LE.le Nat _ X.s₀.heap.objs.size s₂.heap.objs.size:=I.sz
    show @LE.le Nat _ X.s₀.heap.objs.size C
    omega
   ·obtain ⟨v,z⟩:=I.cell x c e
    have z2 : @LT.lt Nat _ c s₂.heap.objs.size:=z.lt
    show ¬ @Eq Nat c C
    omega
   ·have z2 : @LT.lt Nat _ p.1 s₂.heap.objs.size:=Heap.lt_size (I.pin p hp).1
    show ¬ @Eq Nat p.1 C
    omega
  ·refine thn (T.item (blk X scope N' C fp s₂ H₂) rfl rfl rfl hc i _ s' σ' H' NoE I' (fpok fr') st' go) fun r s4 ⟨u,hr,h4⟩=>?_
   subst hr
   refine thn h4 fun _ s5 ⟨x,H5,I5,r5,y5,st5,fr5⟩=>?_
   have I5':=I5.pinned (fpok fr5) (T.obj _ _ st5)
   refine thn (hg C fp s₂ H₂ _ s5 σ' H5 x u _ I5' r5 (step x H5 y5)) fun _ s6 ⟨σ6,H6,I6,q6⟩=>?_
   refine thn (hi C fp s₂ H₂ _ s6 σ6 H6 _ I6 q6) fun ok s7 ⟨H7,I7,q7⟩=>?_
   have fpin : ∀ {σ8:St} {H8:Hp} {s8:Shared},Inv (blk X scope N' C fp s₂ H₂) ([(D,jsh its n)] ++ jlg fp s5.heap) σ8 H8 s8 → ∀ b ∈ fp,∀ o,s5.heap.get? b = some o → s8.heap.get? b = some o ∧ H8 b = none:=fun {σ8 H8 s8} I8 b hb o e=>by
    have z:=I8.pin (b,o) (List.mem_append_right _ (List.mem_append_right _ (jh3 hb e)))
    exact ⟨z.1,z.2.1⟩
   cases ok with
   | false=>
    have q7':N ys σ6 H7:=by
     have q7':=q7
     rw [if_neg Bool.false_ne_true] at q7'
     exact q7'
    obtain ⟨m',hm,w7⟩:=hN _ _ _ q7'
    refine ⟨m',hm,i + 1,ys,its,n,σ6,H7,I7.jld,hv,T.keep _ _ _ st5 fun b hb o e=>(fpin I7 b hb o e).1,fun b hb=>?_,w7⟩
    obtain ⟨o,e,_⟩:=T.obj _ _ st5 b hb
    exact (fpin I7 b hb o e).2
   | true=>
    have q7':te σ6 H7 fun y H4=>N (ys ++ [y]) σ6 H4:=by
     have q7':=q7
     rw [if_pos rfl] at q7'
     exact q7'
    show wpAny _ _ _ _ _ _
    refine thn (he C fp s₂ H₂ _ s7 σ6 H7 _ I7 q7') fun yv s8 ⟨y,H8,I8,r8,q8⟩=>?_
    obtain ⟨m',hm,w8⟩:=hN _ _ _ q8
    obtain ⟨z1,z2,z3,z4,z5⟩:=I8.pin (D,jsh its n) (by simp)
    have zD:s8.heap.get? D = some (jsh its n):=z1
    have lenv:=hv.length
    refine append_at (hsz:=by rw [List.size_toArray]; omega) zD fun h9 hs9 hD9=>?_
    have I8':Inv (blk X scope N' C fp s₂ H₂) (jlg fp s5.heap) σ6 H8 s8:=I8.jq2 fun p hp=>I8.pin p (List.mem_append_right _ (List.mem_append_right _ hp))
    have I9:Inv (blk X scope N' C fp s₂ H₂) (jlg fp s5.heap) σ6 H8 { s8 with heap:=h9 }:=I8'.turned (it:=D) (t':=s8.toks) (fun b o hb e=>(hs9.2 b hb).trans e) z2 z3
     (.inr (by show s₂.heap.objs.size ≤ D; omega)) (fun x c e=>by have z : @LT.lt Nat _ c s₂.heap.objs.size:=jxu (scope:=scope) I e; show ¬ @Eq Nat c D; omega) (fun p hp=>by
      have hp':p ∈ jlg fp s5.heap:=by simpa [blk] using hp
      have z:=hlt _ (jtq hp').1
      show ¬ @Eq Nat p.1 D
      omega)
    have hD9':h9.get? D = some (jsh (its ++ [yv]) (n + 1)):=by
     rw [hD9]
     simp [jsh]
    have I10:Inv (blk X scope N' C fp s₂ H₂) [(D,jsh (its ++ [yv]) (n + 1))] σ6 H8 { s8 with heap:=h9 }:=I9.jq2 fun p hp=>by
     have e:p = (D,jsh (its ++ [yv]) (n + 1)):=by simpa using hp
     subst e
     refine ⟨hD9',z2,z3,z4,fun v z=>?_⟩
     have z':Data.seq _ _ = Data.cell v:=z
     cases z'
    refine ⟨m',hm,i + 1,ys ++ [y],its ++ [yv],n + 1,σ6,H8,I10,hv.append (.cons r8 .nil),T.keep _ _ _ st5 fun b hb o e=>?_,fun b hb=>?_,w8⟩
    ·have hbD:b ≠ D:=by
      have z:=hlt b hb
      show ¬ @Eq Nat b D
      omega
     exact (hs9.2 b hbD).trans (fpin I8 b hb o e).1
    ·obtain ⟨o,e,_⟩:=T.obj _ _ st5 b hb
     exact (fpin I8 b hb o e).2
 exact codeAny_compStart_list (loop _ rfl) (T.self _ 0 _ _ _ st₁ (loop _ rfl))
theorem j12.go {pins:List (Addr × Obj)} {σ : St} {H:Hp} {s:Shared} {C:Addr} {h':Heap} (G:j12 X pins H s C) (I:Inv X pins σ H s) (hs:Heap.SameBut C s.heap h') : Inv X pins σ H { s with heap:=h' }:=
 I.turned (it:=C) (t':=s.toks) (fun b o hb e=>(hs.2 b hb).trans e) G.fr G.nl (.inr G.ab) G.nc G.np
variable {scope:Scope} {N':List Str} {ix:List (Option Nat)} {tg iter elt:Expr} {ifs:List Expr} {pos:Pos} {wi:TI} {g:TG} {ti:TT} {te:TE}
theorem joa (co:ji1 X.N X.env.scope scope N' ix) {pins:List (Addr × Obj)} {σ : St} {H:Hp} {s:Shared} (I:Inv X pins σ H s) : closureFor scope X.env = pure (jwa scope X.env):=
 jwo fun p hp e=>I.ok.has p.1 (co.frees p hp e)
theorem jd0 (co:ji1 X.N X.env.scope scope N' ix) (hc:X.calm = true) (hit:PI X tg iter wi) (hg : ∀ C fp s₂ H₂,PG (blk X scope N' C fp s₂ H₂) tg g) (hi : ∀ C fp s₂ H₂,PIf (blk X scope N' C fp s₂ H₂) ifs ti)
  (he : ∀ C fp s₂ H₂,PE (blk X scope N' C fp s₂ H₂) elt te) (hs : ∀ x,foldedSetIterable iter X.env x = pure x:=by intro _; rfl) :
  PE X (.ListComp elt [⟨tg,iter,ifs,0⟩] scope pos) (tLc ix wi g ti te):=by
 intro pins s σ H Q I h
 rw [eval_ListComp]
 refine wpAny_comprehension_free (use:=none) rfl hs (joa co I) co.kind co.names (thn (hit pins s σ H _ I h) fun xv s₁ h₁=>thn h₁ fun itv s₂ h₂=>?_)
 obtain ⟨it,fp,tn,J,H₂,e,I₂,T,st,hf,W,w0,hW⟩:=h₂
 subst e
 refine jxj co hc hg hi he I₂ T st hf w0 hW (RR:=fun acc C=>compPost (model X.prog X.w) X.A X.xe none (EP X pins σ Q) acc C) fun D C ys H' s' I' dn q G=>?_
 obtain ⟨m,hn⟩:=G.ns
 exact ⟨m,hn,fun h' hs'=>⟨.ref D,_,G.go I' hs',rfl,q D dn⟩⟩
theorem jzc {i:Nat} {y:Str} {py spos:Pos} (hN:X.N.Nodup) (hiy:X.N[i]? = some y) (hy:X.env.scope.names.lookup y = some .local) (co:ji1 X.N X.env.scope scope N' ix) (hc:X.calm = true) (hit:PI X tg iter wi)
  (hg : ∀ C fp s₂ H₂,PG (blk X scope N' C fp s₂ H₂) tg g) (hi : ∀ C fp s₂ H₂,PIf (blk X scope N' C fp s₂ H₂) ifs ti)
  (he : ∀ C fp s₂ H₂,PE (blk X scope N' C fp s₂ H₂) elt te) (hs : ∀ x,foldedSetIterable iter X.env x = pure x:=by intro _; rfl)
  (hsw:swapsWith (.ListComp elt [⟨tg,iter,ifs,0⟩] scope pos) (some (.Name y py)) spos.line X.env = pure true:=by rfl) :
  PS X (.Assign [.Name y py] (.ListComp elt [⟨tg,iter,ifs,0⟩] scope pos) spos) (j53 (tLc ix wi g ti te) (jom i)):=by
 intro pins s σ H D I h
 rw [exec_Assign_Name_used _ _ _ _ hsw]
 refine wpAny_bind (wpAny_standAt (wpAny_bind ?_))
 show wpAny _ X.A (do let _ ← comprehension (.ListComp elt [⟨tg,iter,ifs,0⟩] scope pos) scope X.env _ (newList []) false (eval iter X.env) (some (assign (.Name y py) X.env))) _ _ s
 refine wpAny_bind (wpAny_mono (wpAny_comprehension_free (use:=some (assign (.Name y py) X.env)) (Q:=fun _ s'=>SP X pins D .next s') rfl hs (joa co I) co.kind co.names
  (thn (hit pins s σ H _ I h) fun xv s₁ h₁=>thn h₁ fun itv s₂ h₂=>?_)) (fun _ s' hq=>wpAny_pure (wpAny_pure hq)) fun _ _ e=>e)
 obtain ⟨it,fp,tn,J,H₂,e,I₂,T,st,hf,W,w0,hW⟩:=h₂
 subst e
 refine jxj co hc hg hi he I₂ T st hf w0 hW (RR:=fun acc C=>compPost (model X.prog X.w) X.A X.xe (some (assign (.Name y py) X.env)) (fun _ s'=>SP X pins D .next s') acc C) fun Da C ys H' s' I' dn q G=>?_
 show wpAny _ _ (assign (.Name y py) X.env (.ref Da)) _ _ s'
 refine wpAny_assign_Name (jsj (v:=.ref Da) I' hN hiy (.inl hy) rfl (fun s'' I'' ⟨a,sb,ha⟩=>?_) (.inr hy))
 have hCa:C ≠ a:=by
  rcases ha with z | z
  ·rw [z]; exact G.nl
  ·exact Ne.symm (G.nc _ _ z)
 obtain ⟨m,hn⟩:=G.ns
 have hn2:=hn.sameBut sb hCa
 have G2:j12 X pins (upd H' Da (.lst ys)) s'' C:=⟨⟨m,hn2⟩,G.fr,G.nl,G.ab,G.nc,G.np⟩
 exact ⟨m,hn2,fun h' hs'=>⟨_,_,G2.go I'' hs',q Da dn⟩⟩
end
theorem jpk {K:PySem.W.Frag} {a:Addr} {xs:List V} {g:TG} {ti:TT} {te:TE} {σ0:St} {H0:Hp} {Q:VK} (Pv:Nat → List V → St → Hp → Prop) (h0:Pv 0 [] σ0 H0)
    (hl : ∀ i ys σ H,i ≤ xs.length → Pv i ys σ H → SqL K H a xs ∧ ys.length ≤ sizeLine)
    (hs : ∀ i x ys σ H,xs[i]? = some x → Pv i ys σ H → g x σ H fun σ2 H2=>ti σ2 H2 fun b H3=>if b = true then te σ2 H3 fun y H4=>Pv (i + 1) (ys ++ [y]) σ2 H4 else Pv (i + 1) ys σ2 H3)
    (hd : ∀ ys σ H,Pv xs.length ys σ H → ∀ p,H p = none → Q (.ref p) (upd H p (.lst ys))) :
    ∃ W : Nat → Nat → List V → St → Hp → Prop,(∃ m,W 0 m [] σ0 H0) ∧ ∀ i m ys σ H,W i m ys σ H →
      ys.length ≤ sizeLine ∧ (((Itl K a).stop i H ∧ jx2 Q ys H) ∨
        ((Itl K a).go i H ∧ ∃ N:List V → St → Hp → Prop,(∀ ys' σ' H',N ys' σ' H' → ∃ m',m' < m ∧ W (i + 1) m' ys' σ' H') ∧
          ∀ x H',(Itl K a).yld i H x H' → g x σ H' fun σ2 H2=>ti σ2 H2 fun b H3=>if b = true then te σ2 H3 fun y H4=>N (ys ++ [y]) σ2 H4 else N ys σ2 H3)):=by
  refine ⟨fun i m ys σ H=>m = xs.length - i ∧ i ≤ xs.length ∧ Pv i ys σ H,⟨xs.length,by simp,Nat.zero_le _,h0⟩,?_⟩
  rintro i m ys σ H ⟨rfl,hi,p⟩
  obtain ⟨q,hz⟩:=hl i ys σ H hi p
  refine ⟨hz,?_⟩
  by_cases hlt:i < xs.length
  · refine .inr ⟨⟨xs,xs[i],q,by simp [hlt]⟩,Pv (i + 1),fun ys' σ' H' p'=>⟨xs.length - (i + 1),by omega,rfl,hlt,p'⟩,fun x H' y=>?_⟩
    obtain ⟨e,y⟩:=y
    subst e
    exact hs i x ys σ _ (y xs q) p
  · have e:i = xs.length:=by omega
    subst e
    exact .inl ⟨⟨xs,q,Nat.le_refl _⟩,hd ys σ H p⟩
theorem jvj {lo:Int} {n:Nat} {g:TG} {ti:TT} {te:TE} {σ0:St} {H0:Hp} {Q:VK} (Pv:Nat → List V → St → Hp → Prop) (h0:Pv 0 [] σ0 H0)
    (hl : ∀ i ys σ H,i ≤ n → Pv i ys σ H → ys.length ≤ sizeLine)
    (hs : ∀ i ys σ H,i < n → Pv i ys σ H → g (.int (lo + i)) σ H fun σ2 H2=>ti σ2 H2 fun b H3=>if b = true then te σ2 H3 fun y H4=>Pv (i + 1) (ys ++ [y]) σ2 H4 else Pv (i + 1) ys σ2 H3)
    (hd : ∀ ys σ H,Pv n ys σ H → ∀ p,H p = none → Q (.ref p) (upd H p (.lst ys))) :
    ∃ W : Nat → Nat → List V → St → Hp → Prop,(∃ m,W 0 m [] σ0 H0) ∧ ∀ i m ys σ H,W i m ys σ H →
      ys.length ≤ sizeLine ∧ (((Itr lo n).stop i H ∧ jx2 Q ys H) ∨
        ((Itr lo n).go i H ∧ ∃ N:List V → St → Hp → Prop,(∀ ys' σ' H',N ys' σ' H' → ∃ m',m' < m ∧ W (i + 1) m' ys' σ' H') ∧
          ∀ x H',(Itr lo n).yld i H x H' → g x σ H' fun σ2 H2=>ti σ2 H2 fun b H3=>if b = true then te σ2 H3 fun y H4=>N (ys ++ [y]) σ2 H4 else N ys σ2 H3)):=by
  refine ⟨fun i m ys σ H=>m = n - i ∧ i ≤ n ∧ Pv i ys σ H,⟨n,by simp,Nat.zero_le _,h0⟩,?_⟩
  rintro i m ys σ H ⟨rfl,hi,p⟩
  refine ⟨hl i ys σ H hi p,?_⟩
  by_cases hlt:i < n
  · refine .inr ⟨hlt,Pv (i + 1),fun ys' σ' H' p'=>⟨n - (i + 1),by omega,rfl,hlt,p'⟩,fun x H' y=>?_⟩
    obtain ⟨e,y⟩:=y
    subst e y
    exact hs i ys σ _ hlt p
  · have e:i = n:=by omega
    subst e
    exact .inl ⟨Nat.le_refl _,hd ys σ H p⟩
end L2
namespace L2
open PySem PySem.Spec PyProof.Rows
section
variable {X:Cx}
theorem jfc:jnm X (.builtin "isinstance") (fun xs H Q=>∃ x t T b,xs = [x,.ty T] ∧ jwj X.K H x t ∧ PySem.W.kitOne X.K t (.type T) = some b ∧ Q (.bl b) H):=by
 intro pins s σ H xs us Q I r h
 obtain ⟨x,t,T,b,rfl,ty,e,q⟩:=h
 obtain ⟨u,w,rfl,r1,r2⟩:=vals2 r
 obtain rfl:w = Value.type T:=r2
 exact jw9 I r1 ty e fun tk=>⟨.bl b,H,I.tok tk,rfl,q⟩
theorem jws {A:Around} {s:Shared} {p:Addr} {its:List Value} (hh:A.handled = none) (hl:s.heap.IsList p its.toArray) :
  ∃ (fp:List Addr),(∀ b ∈ fp,b < s.heap.objs.size + 1) ∧ Walks X.prog X.w A s.heap.objs.size fp [s.heap.objs.size] its.toArray.size (fun i v=>its.toArray[i]? = some v) (fun i h=>h.IsListIter s.heap.objs.size p i ∧ h.IsList p its.toArray) ∧
   ((s.heap.push { cls:=.type "list_iterator",data:=.fields #[.ref p,.int 0 0] }).IsListIter s.heap.objs.size p 0 ∧ (s.heap.push { cls:=.type "list_iterator",data:=.fields #[.ref p,.int 0 0] }).IsList p its.toArray):=by
 have hlt:p < s.heap.objs.size:=by obtain ⟨_,e,_⟩:=hl; exact Heap.lt_size e
 refine ⟨[s.heap.objs.size,p],fun b hb=>?_,Walks.list (A:=A) hh _ p (Nat.ne_of_lt hlt) its.toArray,⟨_,Heap.get?_push_size _ rfl,rfl,rfl⟩,hl.push _⟩
 rcases List.mem_cons.mp hb with e | e
 ·rw [e]; exact Nat.lt_succ_self _
 ·rw [List.mem_singleton.mp e]; exact Nat.lt_succ_of_lt hlt
theorem jv7 {s:Shared} {h':Heap} {o:Obj} (hk : ∀ b x,b ∉ [s.heap.objs.size] → (s.heap.push o).get? b = some x → h'.get? b = some x) : ∀ b x,s.heap.get? b = some x → h'.get? b = some x:=
 fun b x e=>hk b x (fun hm=>by rw [List.mem_singleton.mp hm] at e; exact Nat.lt_irrefl _ (Heap.lt_size e)) (Heap.get?_push_of_some _ e)
theorem jq9 : ∀ {bs:List Bool} {us:List Value},Vals (bs.map V.bl) us → us = bs.map Value.bool
 | [],us,h=>by
  rw [List.map_nil] at h
  cases h
  rfl
 | b :: bs,us,h=>by
  rw [List.map_cons] at h
  cases h with
  | cons r1 r2=>
   cases r1
   rw [jq9 r2,List.map_cons]
theorem jzh {A:Around} (bs:List Bool) (d:Bool) : ∀ (i:Nat) (v:Value) (s':Shared) (Q':Bool → Shared → Prop) (E':Value → Shared → Prop),(bs.map Value.bool).toArray[i]? = some v → Q' ((bs[i]?).getD d) s' → wpAny (model X.prog X.w) A (truthy v) Q' E' s':=
 fun i v s' Q' E' hP hQ=>by
  have e:(bs.map Value.bool)[i]? = some v:=by simpa using hP
  rw [List.getElem?_map] at e
  cases q:bs[i]? with
  | none=>rw [q] at e; cases e
  | some b=>
   rw [q] at e hQ
   have e':Value.bool b = v:=Option.some.inj e
   subst e'
   exact wpAny_truthy_bool hQ
theorem jzu (hc:X.calm = true) : jnm X (.builtin "all") (fun xs H Q=>∃ (p:Addr) (bs:List Bool),xs = [.ref p] ∧ SqL X.K H p (bs.map V.bl) ∧ Q (.bl (bs.all id)) H):=by
 intro pins s σ H xs us Q I r h
 obtain ⟨p,bs,rfl,hq,q⟩:=h
 obtain ⟨u,rfl,rx⟩:=vals1 r
 cases rx
 obtain ⟨its,r',pl,hz⟩:=I.list hq
 have ei:=jq9 r'
 subst ei
 obtain ⟨fp,hfp,W,st⟩:=jws (X:=X) (A:=X.A.in1) (s:=s) (I.ok.hd hc) pl.isList
 refine call_all_walk (wpAny_pyIter_list pl.isList ⟨_,fp,_,_,_,_,fun i=>(bs[i]?).getD true,rfl,W,st,jzh bs true,fun h' tk hk=>?_⟩)
 have e:((List.range (bs.map Value.bool).toArray.size).all fun i=>(bs[i]?).getD true) = bs.all id:=by
  rw [List.size_toArray,List.length_map]; exact LSm.range_all bs
 rw [e]
 exact ⟨.bl (bs.all id),H,I.kept (t':=tk) (jv7 hk),rfl,q⟩
theorem jvw (hc:X.calm = true) : jnm X (.builtin "sum") (fun xs H Q=>∃ (p:Addr) (ns:List Int),xs = [.ref p] ∧ SqL X.K H p (ns.map V.int) ∧ Q (.int ns.sum) H):=by
 intro pins s σ H xs us Q I r h
 obtain ⟨p,ns,rfl,hq,q⟩:=h
 obtain ⟨u,rfl,rx⟩:=vals1 r
 cases rx
 obtain ⟨its,r',pl,hz⟩:=I.list hq
 have hi:=intsAre_of r'
 obtain ⟨ms,hx⟩:=hi.allInts.items
 have hl':s.heap.IsList p (intItems ms):=hx ▸ pl.isList
 refine sum_intListG (I.ok.hd hc) hl' fun h' tk t' hk=>?_
 have e1:ns = ms.toList.map (·.1):=by
  rw [← nums_intItems,← hx]
  exact (show numsOf its.toArray.toList = ns from hi.numsOf).symm
 have e2:preSum (numAt ms) ms.size = ns.sum:=by
  rw [preSum_eq,List.take_of_length_le (by simp),e1]
 rw [e2]
 exact ⟨.int ns.sum,H,I.kept (t':=tk) hk,⟨t',rfl⟩,q⟩
end
end L2
namespace L2
open PySem PySem.Spec PyProof.Rows
inductive Dt where
 | non | bl (b:Bool) | int (i:Int) | str (x:Str) | tup (ds:List Dt) | lst (ds:List Dt)
mutual
def qk (K:PySem.W.Frag) (H:Hp) : Dt → V → Prop
 | .non,v=>v = .non
 | .bl b,v=>v = .bl b
 | .int i,v=>v = .int i
 | .str x,v=>v = .str x
 | .tup ds,v=>∃ a xs,v = .ref a ∧ SqT K H a xs ∧ yg K H ds xs
 | .lst ds,v=>∃ a xs,v = .ref a ∧ SqL K H a xs ∧ yg K H ds xs
def yg (K:PySem.W.Frag) (H:Hp) : List Dt → List V → Prop
 | [],xs=>xs = []
 | d :: ds,xs=>∃ x r,xs = x :: r ∧ qk K H d x ∧ yg K H ds r
end
mutual
def eqD:Dt → Dt → Bool
 | .non,.non=>true
 | .bl a,.bl b=>a == b
 | .bl a,.int b=>(if a then 1 else 0) == b
 | .int a,.bl b=>a == (if b then 1 else 0)
 | .int a,.int b=>a == b
 | .str a,.str b=>a == b
 | .tup as,.tup bs=>jo5 as bs
 | .lst as,.lst bs=>jo5 as bs
 | _,_=>false
def jo5:List Dt → List Dt → Bool
 | [],[]=>true
 | a :: as,b :: bs=>eqD a b && jo5 as bs
 | _,_=>false
end
mutual
def jj5:Dt → Nat
 | .tup ds=>je0 ds + 1
 | .lst ds=>je0 ds + 1
 | _=>0
def je0:List Dt → Nat
 | []=>0
 | d :: ds=>max (jj5 d) (je0 ds)
end
def jqa (ds es:List Dt) (j:Nat) : Bool:=match ds[j]?,es[j]? with
 | some a,some b=>eqD a b
 | _,_=>true
theorem jcd : ∀ (ds es:List Dt),((List.range (min ds.length es.length)).all (jqa ds es) && (ds.length == es.length)) = jo5 ds es
 | [],[]=>by simp [jo5]
 | [],e :: es=>by simp [jo5]
 | d :: ds,[]=>by simp [jo5]
 | d :: ds,e :: es=>by
  have ih:=jcd ds es
  have e1:min (d :: ds).length (e :: es).length = min ds.length es.length + 1:=by simp only [List.length_cons]; omega
  have e2:((d :: ds).length == (e :: es).length) = (ds.length == es.length):=by simp
  have e3:(jqa (d :: ds) (e :: es) ∘ Nat.succ) = jqa ds es:=by funext j; simp [jqa,Function.comp]
  have e4:jqa (d :: ds) (e :: es) 0 = eqD d e:=by simp [jqa]
  rw [e1,e2,List.range_succ_eq_map,List.all_cons,List.all_map,e3,e4,Bool.and_assoc,ih,jo5]
theorem yg.length {K:PySem.W.Frag} {H:Hp} : ∀ {ds:List Dt} {xs:List V},yg K H ds xs → ds.length = xs.length
 | [],xs,h=>by
  rw [yg] at h
  rw [h]
  rfl
 | d :: ds,xs,h=>by
  rw [yg] at h
  obtain ⟨x,r,rfl,_,h2⟩:=h
  rw [List.length_cons,List.length_cons,yg.length h2]
theorem yg.get {K:PySem.W.Frag} {H:Hp} : ∀ {ds:List Dt} {xs:List V} {j:Nat} {x:V},yg K H ds xs → xs[j]? = some x → ∃ d,ds[j]? = some d ∧ qk K H d x
 | [],xs,j,x,h,e=>by
  rw [yg] at h
  subst h
  simp at e
 | d :: ds,xs,j,x,h,e=>by
  rw [yg] at h
  obtain ⟨y,r,rfl,h1,h2⟩:=h
  cases j with
  | zero=>
   have e':y = x:=by simpa using e
   subst e'
   exact ⟨d,by simp,h1⟩
  | succ j=>
   obtain ⟨d',q1,q2⟩:=yg.get (j:=j) h2 (by simpa using e)
   exact ⟨d',by simpa using q1,q2⟩
theorem jxy : ∀ {ds:List Dt} {j:Nat} {d:Dt},ds[j]? = some d → jj5 d ≤ je0 ds
 | [],j,d,e=>by simp at e
 | c :: ds,j,d,e=>by
  rw [je0]
  cases j with
  | zero=>
   have e':c = d:=by simpa using e
   subst e'
   exact Nat.le_max_left _ _
  | succ j=>exact Nat.le_trans (jxy (j:=j) (by simpa using e)) (Nat.le_max_right _ _)
section
variable {X:Cx} {pins:List (Addr × Obj)} {σ : St} {H:Hp} {s:Shared}
theorem ji3 (I:Inv X pins σ H s) {a:Addr} {xs ys:List V} (h:SqL X.K H a xs) (h':SqT X.K H a ys) : False:=by
 obtain ⟨_,_,p,_⟩:=I.list h
 obtain ⟨_,_,q,_⟩:=I.tuple h'
 obtain ⟨o,e,c,_⟩:=p.isList
 obtain ⟨o',e',c',_⟩:=q
 rw [e] at e'
 cases e'
 rw [c] at c'
 exact absurd c' (by decide)
mutual
theorem jo1 (I:Inv X pins σ H s) : ∀ (d e:Dt) (x:V),qk X.K H d x → qk X.K H e x → eqD d e = true
 | .non,e,x,h,k=>by
  rw [qk] at h
  subst h
  cases e <;> rw [qk] at k <;> first | (obtain ⟨_,_,z,_⟩:=k; cases z) | rfl | cases k
 | .bl b,e,x,h,k=>by
  rw [qk] at h
  subst h
  cases e <;> rw [qk] at k <;> first | (obtain ⟨_,_,z,_⟩:=k; cases z) | (cases k; simp [eqD]; done) | cases k
 | .int b,e,x,h,k=>by
  rw [qk] at h
  subst h
  cases e <;> rw [qk] at k <;> first | (obtain ⟨_,_,z,_⟩:=k; cases z) | (cases k; simp [eqD]; done) | cases k
 | .str b,e,x,h,k=>by
  rw [qk] at h
  subst h
  cases e <;> rw [qk] at k <;> first | (obtain ⟨_,_,z,_⟩:=k; cases z) | (cases k; simp [eqD]; done) | cases k
 | .tup ds,e,x,h,k=>by
  rw [qk] at h
  obtain ⟨a,xs,rfl,h1,h2⟩:=h
  cases e with
  | tup es=>
   rw [qk] at k
   obtain ⟨b,ys,z,k1,k2⟩:=k
   cases z
   have e:=I.jpa k1 h1
   subst e
   rw [eqD]
   exact jl0 I ds es _ h2 k2
  | lst es=>
   rw [qk] at k
   obtain ⟨b,ys,z,k1,k2⟩:=k
   cases z
   exact (ji3 I k1 h1).elim
  | non=>rw [qk] at k; cases k
  | bl b=>rw [qk] at k; cases k
  | int b=>rw [qk] at k; cases k
  | str b=>rw [qk] at k; cases k
 | .lst ds,e,x,h,k=>by
  rw [qk] at h
  obtain ⟨a,xs,rfl,h1,h2⟩:=h
  cases e with
  | lst es=>
   rw [qk] at k
   obtain ⟨b,ys,z,k1,k2⟩:=k
   cases z
   have e:=I.jvh k1 h1
   subst e
   rw [eqD]
   exact jl0 I ds es _ h2 k2
  | tup es=>
   rw [qk] at k
   obtain ⟨b,ys,z,k1,k2⟩:=k
   cases z
   exact (ji3 I h1 k1).elim
  | non=>rw [qk] at k; cases k
  | bl b=>rw [qk] at k; cases k
  | int b=>rw [qk] at k; cases k
  | str b=>rw [qk] at k; cases k
theorem jl0 (I:Inv X pins σ H s) : ∀ (ds es:List Dt) (xs:List V),yg X.K H ds xs → yg X.K H es xs → jo5 ds es = true
 | [],es,xs,h,k=>by
  rw [yg] at h
  subst h
  cases es with
  | nil=>rw [jo5]
  | cons e es=>
   rw [yg] at k
   obtain ⟨_,_,z,_⟩:=k
   cases z
 | d :: ds,es,xs,h,k=>by
  rw [yg] at h
  obtain ⟨x,r,rfl,h1,h2⟩:=h
  cases es with
  | nil=>rw [yg] at k; cases k
  | cons e es=>
   rw [yg] at k
   obtain ⟨y,r',z,k1,k2⟩:=k
   cases z
   rw [jo5,jo1 I d e _ h1 k1,jl0 I ds es _ h2 k2]
   rfl
end
theorem items_eqAt {A:Around} {ds es:List Dt} {xs ys:List V} {is js:List Value} (hd:yg X.K H ds xs) (he:yg X.K H es ys) (vi:Vals xs is) (vj:Vals ys js)
  (rec : ∀ d e x y u v,d ∈ ds → jj5 d ≤ je0 ds → qk X.K H d x → qk X.K H e y → RelV x u → RelV y v → SeqAt.EqAt A s u v (eqD d e)) :
  ∀ j (h1:j < is.toArray.size) (h2:j < js.toArray.size),SeqAt.EqAt A s is.toArray[j] js.toArray[j] (jqa ds es j):=fun j h1 h2=>by
 have h1':j < is.length:=by simpa using h1
 have h2':j < js.length:=by simpa using h2
 have lx:j < xs.length:=by rw [vi.length]; exact h1'
 have ly:j < ys.length:=by rw [vj.length]; exact h2'
 obtain ⟨u,eu,ru⟩:=vi.get (i:=j) (x:=xs[j]) (by simp [lx])
 obtain ⟨v,ev,rv⟩:=vj.get (i:=j) (x:=ys[j]) (by simp [ly])
 obtain ⟨d,ed,kd⟩:=hd.get (j:=j) (x:=xs[j]) (by simp [lx])
 obtain ⟨e,ee,ke⟩:=he.get (j:=j) (x:=ys[j]) (by simp [ly])
 have e1:is.toArray[j] = u:=by
  rw [List.getElem?_eq_getElem h1'] at eu
  simpa using eu
 have e2:js.toArray[j] = v:=by
  rw [List.getElem?_eq_getElem h2'] at ev
  simpa using ev
 have e3:jqa ds es j = eqD d e:=by simp [jqa,ed,ee]
 rw [e1,e2,e3]
 exact rec d e _ _ u v (List.mem_of_getElem? ed) (jxy ed) kd ke ru rv
theorem jh9 {ds es:List Dt} {xs ys:List V} {is js:List Value} (hd:yg X.K H ds xs) (he:yg X.K H es ys) (vi:Vals xs is) (vj:Vals ys js) : ds.length = is.toArray.size ∧ es.length = js.toArray.size:=by
 rw [hd.length,he.length,vi.length,vj.length]
 simp
theorem jpu {ds es:List Dt} (h:ds.length = es.length) : (List.range ds.length).all (jqa ds es) = jo5 ds es:=by
 have q:=jcd ds es
 rw [← h,Nat.min_self,beq_self_eq_true,Bool.and_true] at q
 exact q
theorem jry {ds es:List Dt} (h:ds.length ≠ es.length) : jo5 ds es = false:=by
 have q:=jcd ds es
 rw [show (ds.length == es.length) = false from by simpa using h,Bool.and_false] at q
 exact q.symm
theorem jtj (I:Inv X pins σ H s) : ∀ (n:Nat) (d e:Dt) (x y:V) (u v:Value) (A:Around),jj5 d ≤ n → A.units + n < cLine → qk X.K H d x → qk X.K H e y → RelV x u → RelV y v → SeqAt.EqAt A s u v (eqD d e):=by
 intro n
 induction n with
 | zero=>
  intro d e x y u v A hn hu hd he ru rv
  have hu':A.units < cLine:=by omega
  cases d with
  | tup ds=>rw [jj5] at hn; omega
  | lst ds=>rw [jj5] at hn; omega
  | non=>
   rw [qk] at hd; subst hd; cases ru
   cases e <;> rw [qk] at he
   case non=>subst he; cases rv; exact SeqAt.EqAt.same _
   case bl b=>subst he; cases rv; exact SeqAt.EqAt.none_bool b
   case int b=>subst he; obtain ⟨t,rfl⟩:=rv; exact SeqAt.EqAt.none_int b t
   case str b=>subst he; obtain ⟨t,rfl⟩:=rv; exact SeqAt.EqAt.none_str b t
   case tup es=>obtain ⟨b,ys,rfl,k1,k2⟩:=he; cases rv; obtain ⟨js,vj,pj,_⟩:=I.tuple k1; exact SeqAt.EqAt.none_tuple pj hu'
   case lst es=>obtain ⟨b,ys,rfl,k1,k2⟩:=he; cases rv; obtain ⟨js,vj,pj,_⟩:=I.list k1; exact SeqAt.EqAt.none_list pj.isList hu'
  | bl a=>
   rw [qk] at hd; subst hd; cases ru
   cases e <;> rw [qk] at he
   case non=>subst he; cases rv; exact SeqAt.EqAt.bool_none a
   case bl b=>subst he; cases rv; exact SeqAt.EqAt.bool_bool a b
   case int b=>subst he; obtain ⟨t,rfl⟩:=rv; exact SeqAt.EqAt.bool_int a b t
   case str b=>subst he; obtain ⟨t,rfl⟩:=rv; exact SeqAt.EqAt.bool_str a b t
   case tup es=>obtain ⟨b,ys,rfl,k1,k2⟩:=he; cases rv; obtain ⟨js,vj,pj,_⟩:=I.tuple k1; exact SeqAt.EqAt.bool_tuple a pj hu'
   case lst es=>obtain ⟨b,ys,rfl,k1,k2⟩:=he; cases rv; obtain ⟨js,vj,pj,_⟩:=I.list k1; exact SeqAt.EqAt.bool_list a pj.isList hu'
  | int a=>
   rw [qk] at hd; subst hd; obtain ⟨t0,rfl⟩:=ru
   cases e <;> rw [qk] at he
   case non=>subst he; cases rv; exact SeqAt.EqAt.int_none a t0
   case bl b=>subst he; cases rv; exact SeqAt.EqAt.int_bool a t0 b
   case int b=>subst he; obtain ⟨t,rfl⟩:=rv; exact SeqAt.EqAt.int_int a t0 b t
   case str b=>subst he; obtain ⟨t,rfl⟩:=rv; exact SeqAt.EqAt.int_str a t0 b t
   case tup es=>obtain ⟨b,ys,rfl,k1,k2⟩:=he; cases rv; obtain ⟨js,vj,pj,_⟩:=I.tuple k1; exact SeqAt.EqAt.int_tuple a t0 pj hu'
   case lst es=>obtain ⟨b,ys,rfl,k1,k2⟩:=he; cases rv; obtain ⟨js,vj,pj,_⟩:=I.list k1; exact SeqAt.EqAt.int_list a t0 pj.isList hu'
  | str a=>
   rw [qk] at hd; subst hd; obtain ⟨t0,rfl⟩:=ru
   cases e <;> rw [qk] at he
   case non=>subst he; cases rv; exact SeqAt.EqAt.str_none a t0
   case bl b=>subst he; cases rv; exact SeqAt.EqAt.str_bool a t0 b
   case int b=>subst he; obtain ⟨t,rfl⟩:=rv; exact SeqAt.EqAt.str_int a t0 b t
   case str b=>subst he; obtain ⟨t,rfl⟩:=rv; exact SeqAt.EqAt.str_str a t0 b t
   case tup es=>obtain ⟨b,ys,rfl,k1,k2⟩:=he; cases rv; obtain ⟨js,vj,pj,_⟩:=I.tuple k1; exact SeqAt.EqAt.str_tuple a t0 pj hu'
   case lst es=>obtain ⟨b,ys,rfl,k1,k2⟩:=he; cases rv; obtain ⟨js,vj,pj,_⟩:=I.list k1; exact SeqAt.EqAt.str_list a t0 pj.isList hu'
 | succ n ih=>
  intro d e x y u v A hn hu hd he ru rv
  have hu':A.units < cLine:=by omega
  have hu1:A.in1.units + n < cLine:=by rw [units_in1]; omega
  cases d with
  | tup ds=>
   rw [jj5] at hn
   have hd0:=hd
   rw [qk] at hd
   obtain ⟨a,xs,rfl,k1,k2⟩:=hd
   cases ru
   obtain ⟨is,vi,pi,_⟩:=I.tuple k1
   cases e with
   | tup es=>
    have he0:=he
    rw [qk] at he
    obtain ⟨b,ys,rfl,l1,l2⟩:=he
    cases rv
    obtain ⟨js,vj,pj,_⟩:=I.tuple l1
    by_cases hab:a = b
    ·subst hab
     rw [jo1 I _ _ _ hd0 he0]
     exact SeqAt.EqAt.same _
    ·have q:=SeqAt.RcAt.tuples (A:=A) pi pj hu' (items_eqAt k2 l2 vi vj fun d e x y u v _ hdd=>ih d e x y u v A.in1 (by omega) hu1)
     obtain ⟨z1,z2⟩:=jh9 k2 l2 vi vj
     rw [← z1,← z2,jcd] at q
     rw [eqD]
     exact SeqAt.EqAt.of_refs hab q
   | lst es=>rw [qk] at he; obtain ⟨b,ys,rfl,l1,l2⟩:=he; cases rv; obtain ⟨js,vj,pj,_⟩:=I.list l1; exact SeqAt.EqAt.tuple_list pi pj.isList hu'
   | non=>rw [qk] at he; subst he; cases rv; exact SeqAt.EqAt.tuple_none pi hu'
   | bl b=>rw [qk] at he; subst he; cases rv; exact SeqAt.EqAt.tuple_bool b pi hu'
   | int b=>rw [qk] at he; subst he; obtain ⟨t,rfl⟩:=rv; exact SeqAt.EqAt.tuple_int b t pi hu'
   | str b=>rw [qk] at he; subst he; obtain ⟨t,rfl⟩:=rv; exact SeqAt.EqAt.tuple_str b t pi hu'
  | lst ds=>
   rw [jj5] at hn
   have hd0:=hd
   rw [qk] at hd
   obtain ⟨a,xs,rfl,k1,k2⟩:=hd
   cases ru
   obtain ⟨is,vi,pi,_⟩:=I.list k1
   cases e with
   | lst es=>
    have he0:=he
    rw [qk] at he
    obtain ⟨b,ys,rfl,l1,l2⟩:=he
    cases rv
    obtain ⟨js,vj,pj,_⟩:=I.list l1
    obtain ⟨z1,z2⟩:=jh9 k2 l2 vi vj
    by_cases hab:a = b
    ·subst hab
     rw [jo1 I _ _ _ hd0 he0]
     exact SeqAt.EqAt.same _
    ·rw [eqD]
     by_cases hsz:ds.length = es.length
     ·have q:=SeqAt.RcAt.lists (A:=A) pi.isList pj.isList (by omega) hu' (items_eqAt k2 l2 vi vj fun d e x y u v _ hdd=>ih d e x y u v A.in1 (by omega) hu1)
      rw [← z1,jpu hsz] at q
      exact SeqAt.EqAt.of_refs hab q
     ·rw [jry hsz]
      exact SeqAt.EqAt.of_refs hab (SeqAt.RcAt.lists_lengths pi.isList pj.isList (by rw [← z1,← z2]; simpa using hsz) hu')
   | tup es=>rw [qk] at he; obtain ⟨b,ys,rfl,l1,l2⟩:=he; cases rv; obtain ⟨js,vj,pj,_⟩:=I.tuple l1; exact SeqAt.EqAt.list_tuple pi.isList pj hu'
   | non=>rw [qk] at he; subst he; cases rv; exact SeqAt.EqAt.list_none pi.isList hu'
   | bl b=>rw [qk] at he; subst he; cases rv; exact SeqAt.EqAt.list_bool b pi.isList hu'
   | int b=>rw [qk] at he; subst he; obtain ⟨t,rfl⟩:=rv; exact SeqAt.EqAt.list_int b t pi.isList hu'
   | str b=>rw [qk] at he; subst he; obtain ⟨t,rfl⟩:=rv; exact SeqAt.EqAt.list_str b t pi.isList hu'
  | non=>exact ih _ _ _ _ _ _ _ (Nat.zero_le n) (by omega) hd he ru rv
  | bl b=>exact ih _ _ _ _ _ _ _ (Nat.zero_le n) (by omega) hd he ru rv
  | int b=>exact ih _ _ _ _ _ _ _ (Nat.zero_le n) (by omega) hd he ru rv
  | str b=>exact ih _ _ _ _ _ _ _ (Nat.zero_le n) (by omega) hd he ru rv
end
end L2
namespace L2
open PySem PySem.Spec PyProof.Rows
section
variable {X:Cx} {pins:List (Addr × Obj)} {σ : St} {H:Hp} {s:Shared}
theorem j3u (I:Inv X pins σ H s) {n:Nat} {d e:Dt} {x y:V} {u v:Value} {A:Around} (hn:jj5 d ≤ n) (hu:A.units + n < cLine) (hd:qk X.K H d x) (he:qk X.K H e y) (ru:RelV x u) (rv:RelV y v) : SeqAt.RcAt A s u v (eqD d e):=by
 have hu':A.units < cLine:=by omega
 cases d with
 | non=>
  rw [qk] at hd; subst hd; cases ru
  cases e <;> rw [qk] at he
  case non=>subst he; cases rv; exact SeqAt.RcAt.none_none
  case bl b=>subst he; cases rv; exact SeqAt.RcAt.none_bool b
  case int b=>subst he; obtain ⟨t,rfl⟩:=rv; exact SeqAt.RcAt.none_int b t
  case str b=>subst he; obtain ⟨t,rfl⟩:=rv; exact SeqAt.RcAt.none_str b t
  case tup es=>obtain ⟨b,ys,rfl,k1,k2⟩:=he; cases rv; obtain ⟨js,vj,pj,_⟩:=I.tuple k1; exact SeqAt.RcAt.none_tuple pj hu'
  case lst es=>obtain ⟨b,ys,rfl,k1,k2⟩:=he; cases rv; obtain ⟨js,vj,pj,_⟩:=I.list k1; exact SeqAt.RcAt.none_list pj.isList hu'
 | bl a=>
  rw [qk] at hd; subst hd; cases ru
  cases e <;> rw [qk] at he
  case non=>subst he; cases rv; exact SeqAt.RcAt.bool_none a
  case bl b=>subst he; cases rv; exact SeqAt.RcAt.bool_bool a b
  case int b=>subst he; obtain ⟨t,rfl⟩:=rv; exact SeqAt.RcAt.bool_int a b t
  case str b=>subst he; obtain ⟨t,rfl⟩:=rv; exact SeqAt.RcAt.bool_str a b t
  case tup es=>obtain ⟨b,ys,rfl,k1,k2⟩:=he; cases rv; obtain ⟨js,vj,pj,_⟩:=I.tuple k1; exact SeqAt.RcAt.bool_tuple a pj hu'
  case lst es=>obtain ⟨b,ys,rfl,k1,k2⟩:=he; cases rv; obtain ⟨js,vj,pj,_⟩:=I.list k1; exact SeqAt.RcAt.bool_list a pj.isList hu'
 | int a=>
  rw [qk] at hd; subst hd; obtain ⟨t0,rfl⟩:=ru
  cases e <;> rw [qk] at he
  case non=>subst he; cases rv; exact SeqAt.RcAt.int_none a t0
  case bl b=>subst he; cases rv; exact SeqAt.RcAt.int_bool a t0 b
  case int b=>subst he; obtain ⟨t,rfl⟩:=rv; exact SeqAt.RcAt.int_int a t0 b t
  case str b=>subst he; obtain ⟨t,rfl⟩:=rv; exact SeqAt.RcAt.int_str a t0 b t
  case tup es=>obtain ⟨b,ys,rfl,k1,k2⟩:=he; cases rv; obtain ⟨js,vj,pj,_⟩:=I.tuple k1; exact SeqAt.RcAt.int_tuple a t0 pj hu'
  case lst es=>obtain ⟨b,ys,rfl,k1,k2⟩:=he; cases rv; obtain ⟨js,vj,pj,_⟩:=I.list k1; exact SeqAt.RcAt.int_list a t0 pj.isList hu'
 | str a=>
  rw [qk] at hd; subst hd; obtain ⟨t0,rfl⟩:=ru
  cases e <;> rw [qk] at he
  case non=>subst he; cases rv; exact SeqAt.RcAt.str_none a t0
  case bl b=>subst he; cases rv; exact SeqAt.RcAt.str_bool a t0 b
  case int b=>subst he; obtain ⟨t,rfl⟩:=rv; exact SeqAt.RcAt.str_int a t0 b t
  case str b=>subst he; obtain ⟨t,rfl⟩:=rv; exact SeqAt.RcAt.str_str a t0 b t
  case tup es=>obtain ⟨b,ys,rfl,k1,k2⟩:=he; cases rv; obtain ⟨js,vj,pj,_⟩:=I.tuple k1; exact SeqAt.RcAt.str_tuple a t0 pj hu'
  case lst es=>obtain ⟨b,ys,rfl,k1,k2⟩:=he; cases rv; obtain ⟨js,vj,pj,_⟩:=I.list k1; exact SeqAt.RcAt.str_list a t0 pj.isList hu'
 | tup ds=>
  rw [jj5] at hn
  have hu1:A.in1.units + (n - 1) < cLine:=by rw [units_in1]; omega
  rw [qk] at hd
  obtain ⟨a,xs,rfl,k1,k2⟩:=hd
  cases ru
  obtain ⟨is,vi,pi,_⟩:=I.tuple k1
  cases e with
  | tup es=>
   rw [qk] at he
   obtain ⟨b,ys,rfl,l1,l2⟩:=he
   cases rv
   obtain ⟨js,vj,pj,_⟩:=I.tuple l1
   have q:=SeqAt.RcAt.tuples (A:=A) pi pj hu' (items_eqAt k2 l2 vi vj fun d e x y u v _ hdd=>jtj I (n - 1) d e x y u v A.in1 (by omega) hu1)
   obtain ⟨z1,z2⟩:=jh9 k2 l2 vi vj
   rw [← z1,← z2,jcd] at q
   rw [eqD]
   exact q
  | lst es=>rw [qk] at he; obtain ⟨b,ys,rfl,l1,l2⟩:=he; cases rv; obtain ⟨js,vj,pj,_⟩:=I.list l1; exact SeqAt.RcAt.tuple_list pi pj.isList hu'
  | non=>rw [qk] at he; subst he; cases rv; exact SeqAt.RcAt.tuple_none pi hu'
  | bl b=>rw [qk] at he; subst he; cases rv; exact SeqAt.RcAt.tuple_bool b pi hu'
  | int b=>rw [qk] at he; subst he; obtain ⟨t,rfl⟩:=rv; exact SeqAt.RcAt.tuple_int b t pi hu'
  | str b=>rw [qk] at he; subst he; obtain ⟨t,rfl⟩:=rv; exact SeqAt.RcAt.tuple_str b t pi hu'
 | lst ds=>
  rw [jj5] at hn
  have hu1:A.in1.units + (n - 1) < cLine:=by rw [units_in1]; omega
  rw [qk] at hd
  obtain ⟨a,xs,rfl,k1,k2⟩:=hd
  cases ru
  obtain ⟨is,vi,pi,_⟩:=I.list k1
  cases e with
  | lst es=>
   rw [qk] at he
   obtain ⟨b,ys,rfl,l1,l2⟩:=he
   cases rv
   obtain ⟨js,vj,pj,_⟩:=I.list l1
   obtain ⟨z1,z2⟩:=jh9 k2 l2 vi vj
   rw [eqD]
   by_cases hsz:ds.length = es.length
   ·have q:=SeqAt.RcAt.lists (A:=A) pi.isList pj.isList (by omega) hu' (items_eqAt k2 l2 vi vj fun d e x y u v _ hdd=>jtj I (n - 1) d e x y u v A.in1 (by omega) hu1)
    rw [← z1,jpu hsz] at q
    exact q
   ·rw [jry hsz]
    exact SeqAt.RcAt.lists_lengths pi.isList pj.isList (by rw [← z1,← z2]; simpa using hsz) hu'
  | tup es=>rw [qk] at he; obtain ⟨b,ys,rfl,l1,l2⟩:=he; cases rv; obtain ⟨js,vj,pj,_⟩:=I.tuple l1; exact SeqAt.RcAt.list_tuple pi.isList pj hu'
  | non=>rw [qk] at he; subst he; cases rv; exact SeqAt.RcAt.list_none pi.isList hu'
  | bl b=>rw [qk] at he; subst he; cases rv; exact SeqAt.RcAt.list_bool b pi.isList hu'
  | int b=>rw [qk] at he; subst he; obtain ⟨t,rfl⟩:=rv; exact SeqAt.RcAt.list_int b t pi.isList hu'
  | str b=>rw [qk] at he; subst he; obtain ⟨t,rfl⟩:=rv; exact SeqAt.RcAt.list_str b t pi.isList hu'
theorem j0x (I:Inv X pins σ H s) {n:Nat} {d e:Dt} {x y:V} {u v:Value} {A:Around} (hn:jj5 d ≤ n) (hu:A.units + n < cLine) (hd:qk X.K H d x) (he:qk X.K H e y) (ru:RelV x u) (rv:RelV y v) : SeqAt.RcNeAt A s u v (!(eqD d e)):=by
 have hu':A.units < cLine:=by omega
 cases d with
 | non=>
  rw [qk] at hd; subst hd; cases ru
  cases e <;> rw [qk] at he
  case non=>subst he; cases rv; exact SeqAt.RcNeAt.none_none
  case bl b=>subst he; cases rv; exact SeqAt.RcNeAt.none_bool b
  case int b=>subst he; obtain ⟨t,rfl⟩:=rv; exact SeqAt.RcNeAt.none_int b t
  case str b=>subst he; obtain ⟨t,rfl⟩:=rv; exact SeqAt.RcNeAt.none_str b t
  case tup es=>obtain ⟨b,ys,rfl,k1,k2⟩:=he; cases rv; obtain ⟨js,vj,pj,_⟩:=I.tuple k1; exact SeqAt.RcNeAt.none_tuple pj hu'
  case lst es=>obtain ⟨b,ys,rfl,k1,k2⟩:=he; cases rv; obtain ⟨js,vj,pj,_⟩:=I.list k1; exact SeqAt.RcNeAt.none_list pj.isList hu'
 | bl a=>
  rw [qk] at hd; subst hd; cases ru
  cases e <;> rw [qk] at he
  case non=>subst he; cases rv; exact SeqAt.RcNeAt.bool_none a
  case bl b=>subst he; cases rv; exact SeqAt.RcNeAt.bool_bool a b
  case int b=>subst he; obtain ⟨t,rfl⟩:=rv; exact SeqAt.RcNeAt.bool_int a b t
  case str b=>subst he; obtain ⟨t,rfl⟩:=rv; exact SeqAt.RcNeAt.bool_str a b t
  case tup es=>obtain ⟨b,ys,rfl,k1,k2⟩:=he; cases rv; obtain ⟨js,vj,pj,_⟩:=I.tuple k1; exact SeqAt.RcNeAt.bool_tuple a pj hu'
  case lst es=>obtain ⟨b,ys,rfl,k1,k2⟩:=he; cases rv; obtain ⟨js,vj,pj,_⟩:=I.list k1; exact SeqAt.RcNeAt.bool_list a pj.isList hu'
 | int a=>
  rw [qk] at hd; subst hd; obtain ⟨t0,rfl⟩:=ru
  cases e <;> rw [qk] at he
  case non=>subst he; cases rv; exact SeqAt.RcNeAt.int_none a t0
  case bl b=>subst he; cases rv; exact SeqAt.RcNeAt.int_bool a t0 b
  case int b=>subst he; obtain ⟨t,rfl⟩:=rv; exact SeqAt.RcNeAt.int_int a t0 b t
  case str b=>subst he; obtain ⟨t,rfl⟩:=rv; exact SeqAt.RcNeAt.int_str a t0 b t
  case tup es=>obtain ⟨b,ys,rfl,k1,k2⟩:=he; cases rv; obtain ⟨js,vj,pj,_⟩:=I.tuple k1; exact SeqAt.RcNeAt.int_tuple a t0 pj hu'
  case lst es=>obtain ⟨b,ys,rfl,k1,k2⟩:=he; cases rv; obtain ⟨js,vj,pj,_⟩:=I.list k1; exact SeqAt.RcNeAt.int_list a t0 pj.isList hu'
 | str a=>
  rw [qk] at hd; subst hd; obtain ⟨t0,rfl⟩:=ru
  cases e <;> rw [qk] at he
  case non=>subst he; cases rv; exact SeqAt.RcNeAt.str_none a t0
  case bl b=>subst he; cases rv; exact SeqAt.RcNeAt.str_bool a t0 b
  case int b=>subst he; obtain ⟨t,rfl⟩:=rv; exact SeqAt.RcNeAt.str_int a t0 b t
  case str b=>subst he; obtain ⟨t,rfl⟩:=rv; exact SeqAt.RcNeAt.str_str a t0 b t
  case tup es=>obtain ⟨b,ys,rfl,k1,k2⟩:=he; cases rv; obtain ⟨js,vj,pj,_⟩:=I.tuple k1; exact SeqAt.RcNeAt.str_tuple a t0 pj hu'
  case lst es=>obtain ⟨b,ys,rfl,k1,k2⟩:=he; cases rv; obtain ⟨js,vj,pj,_⟩:=I.list k1; exact SeqAt.RcNeAt.str_list a t0 pj.isList hu'
 | tup ds=>
  rw [jj5] at hn
  have hu1:A.in1.units + (n - 1) < cLine:=by rw [units_in1]; omega
  rw [qk] at hd
  obtain ⟨a,xs,rfl,k1,k2⟩:=hd
  cases ru
  obtain ⟨is,vi,pi,_⟩:=I.tuple k1
  cases e with
  | tup es=>
   rw [qk] at he
   obtain ⟨b,ys,rfl,l1,l2⟩:=he
   cases rv
   obtain ⟨js,vj,pj,_⟩:=I.tuple l1
   have q:=SeqAt.RcNeAt.tuples (A:=A) pi pj hu' (items_eqAt k2 l2 vi vj fun d e x y u v _ hdd=>jtj I (n - 1) d e x y u v A.in1 (by omega) hu1)
   obtain ⟨z1,z2⟩:=jh9 k2 l2 vi vj
   rw [← z1,← z2,jcd] at q
   rw [eqD]
   exact q
  | lst es=>rw [qk] at he; obtain ⟨b,ys,rfl,l1,l2⟩:=he; cases rv; obtain ⟨js,vj,pj,_⟩:=I.list l1; exact SeqAt.RcNeAt.tuple_list pi pj.isList hu'
  | non=>rw [qk] at he; subst he; cases rv; exact SeqAt.RcNeAt.tuple_none pi hu'
  | bl b=>rw [qk] at he; subst he; cases rv; exact SeqAt.RcNeAt.tuple_bool b pi hu'
  | int b=>rw [qk] at he; subst he; obtain ⟨t,rfl⟩:=rv; exact SeqAt.RcNeAt.tuple_int b t pi hu'
  | str b=>rw [qk] at he; subst he; obtain ⟨t,rfl⟩:=rv; exact SeqAt.RcNeAt.tuple_str b t pi hu'
 | lst ds=>
  rw [jj5] at hn
  have hu1:A.in1.units + (n - 1) < cLine:=by rw [units_in1]; omega
  rw [qk] at hd
  obtain ⟨a,xs,rfl,k1,k2⟩:=hd
  cases ru
  obtain ⟨is,vi,pi,_⟩:=I.list k1
  cases e with
  | lst es=>
   rw [qk] at he
   obtain ⟨b,ys,rfl,l1,l2⟩:=he
   cases rv
   obtain ⟨js,vj,pj,_⟩:=I.list l1
   obtain ⟨z1,z2⟩:=jh9 k2 l2 vi vj
   rw [eqD]
   by_cases hsz:ds.length = es.length
   ·have q:=SeqAt.RcNeAt.lists (A:=A) pi.isList pj.isList (by omega) hu' (items_eqAt k2 l2 vi vj fun d e x y u v _ hdd=>jtj I (n - 1) d e x y u v A.in1 (by omega) hu1)
    rw [← z1,jpu hsz] at q
    exact q
   ·rw [jry hsz]
    exact SeqAt.RcNeAt.lists_lengths pi.isList pj.isList (by rw [← z1,← z2]; simpa using hsz) hu'
  | tup es=>rw [qk] at he; obtain ⟨b,ys,rfl,l1,l2⟩:=he; cases rv; obtain ⟨js,vj,pj,_⟩:=I.tuple l1; exact SeqAt.RcNeAt.list_tuple pi.isList pj hu'
  | non=>rw [qk] at he; subst he; cases rv; exact SeqAt.RcNeAt.list_none pi.isList hu'
  | bl b=>rw [qk] at he; subst he; cases rv; exact SeqAt.RcNeAt.list_bool b pi.isList hu'
  | int b=>rw [qk] at he; subst he; obtain ⟨t,rfl⟩:=rv; exact SeqAt.RcNeAt.list_int b t pi.isList hu'
  | str b=>rw [qk] at he; subst he; obtain ⟨t,rfl⟩:=rv; exact SeqAt.RcNeAt.list_str b t pi.isList hu'
end
def j7z (K:PySem.W.Frag) : R2:=fun x y H Q=>∃ d e,qk K H d x ∧ qk K H e y ∧ jj5 d ≤ 60 ∧ Q (.bl (eqD d e)) H
def j7x (K:PySem.W.Frag) : R2:=fun x y H Q=>∃ d e,qk K H d x ∧ qk K H e y ∧ jj5 d ≤ 60 ∧ Q (.bl (!eqD d e)) H
section
variable {X:Cx}
theorem j49 (hu:X.A.units + 64 < cLine) : OpR X (compareOp .Eq) (j7z X.K):=by
 intro pins s σ H x y v u Q I rx ry h
 obtain ⟨d,e,hd,he,hn,q⟩:=h
 exact j3u I hn (by omega) hd he rx ry _ _ _ _ ⟨.bl _,H,I,rfl,q⟩
theorem jkr (hu:X.A.units + 64 < cLine) : OpR X (compareOp .NotEq) (j7x X.K):=by
 intro pins s σ H x y v u Q I rx ry h
 obtain ⟨d,e,hd,he,hn,q⟩:=h
 exact j0x I hn (by omega) hd he rx ry _ _ _ _ ⟨.bl _,H,I,rfl,q⟩
theorem j4j:OpR X (compareOp .Is) (fun x y H Q=>∃ a b,x = .bl a ∧ y = .bl b ∧ Q (.bl (a == b)) H):=by
 intro pins s σ H x y v u Q I rx ry h
 obtain ⟨a,b,rfl,rfl,q⟩:=h
 cases rx
 cases ry
 exact is_bool ⟨.bl _,H,I,rfl,q⟩
end
theorem jmf (K:PySem.W.Frag) (H:Hp) : ∀ ns:List Int,yg K H (ns.map Dt.int) (ns.map V.int)
 | []=>by rw [List.map_nil,List.map_nil,yg]
 | n :: ns=>by
  rw [List.map_cons,List.map_cons,yg]
  exact ⟨_,_,rfl,by rw [qk],jmf K H ns⟩
theorem jao {K:PySem.W.Frag} {H:Hp} {a:Addr} {ns:List Int} (h:SqL K H a (ns.map V.int)) : qk K H (.lst (ns.map Dt.int)) (.ref a):=by
 rw [qk]
 exact ⟨a,_,rfl,h,jmf K H ns⟩
theorem jsl {K:PySem.W.Frag} {H:Hp} {a:Addr} {ns:List Int} (h:SqT K H a (ns.map V.int)) : qk K H (.tup (ns.map Dt.int)) (.ref a):=by
 rw [qk]
 exact ⟨a,_,rfl,h,jmf K H ns⟩
theorem jlz : ∀ ns:List Int,je0 (ns.map Dt.int) = 0
 | []=>by rw [List.map_nil,je0]
 | n :: ns=>by
  show max (jj5 (Dt.int n)) (je0 (ns.map Dt.int)) = 0
  rw [jlz ns]
  rfl
theorem jos : ∀ ms ns:List Int,jo5 (ms.map Dt.int) (ns.map Dt.int) = decide (ms = ns)
 | [],[]=>by simp [jo5]
 | [],n :: ns=>by simp [jo5]
 | m :: ms,[]=>by simp [jo5]
 | m :: ms,n :: ns=>by
  rw [List.map_cons,List.map_cons,jo5,jos ms ns,eqD]
  by_cases h:m = n
  ·subst h; simp
  ·simp [h]
theorem js1 (ms ns:List Int) : eqD (.lst (ms.map Dt.int)) (.lst (ns.map Dt.int)) = decide (ms = ns):=by rw [eqD,jos]
theorem j0g (ms ns:List Int) : eqD (.tup (ms.map Dt.int)) (.tup (ns.map Dt.int)) = decide (ms = ns):=by rw [eqD,jos]
theorem jhk (ns:List Int) : jj5 (.lst (ns.map Dt.int)) ≤ 60:=by rw [jj5,jlz]; decide
theorem jzo (ns:List Int) : jj5 (.tup (ns.map Dt.int)) ≤ 60:=by rw [jj5,jlz]; decide
end L2
namespace L2
open PySem PySem.Spec PyProof.Rows
section
variable {X:Cx}
def j52 (K:PySem.W.Frag) : R2:=fun x y H Q=>∃ p xs i v,x = .ref p ∧ y = .int i ∧ SqL K H p xs ∧ 0 ≤ i ∧ xs[i.toNat]? = some v ∧ Q v H
theorem jq8:j7f X (j52 X.K):=by
 intro pins s σ H o i ov iv Q I ro ri h
 obtain ⟨p,xs,k,z,rfl,rfl,hq,h0,he,q⟩:=h
 cases ro
 obtain ⟨t,rfl⟩:=ri
 obtain ⟨its,r,pl,hz⟩:=I.list hq
 obtain ⟨w,ew,rw'⟩:=r.get he
 have hl:=r.length
 have hn:=jpw
 have hk:k.toNat < its.length:=(List.getElem?_eq_some_iff.mp ew).1
 exact wpAny_getItem_list pl.isList h0 (by omega) (by simpa using ew) ⟨z,H,I,rw',q⟩
end
def jwv {α : Type} : List α → List α → List α
 | [u0],[w0]=>[u0,w0]
 | _,_=>[]
theorem jzl {vs:List V} {us:List Value} {zs:List V} {ws:List Value} (r1:Vals vs us) (r2:Vals zs ws) : Vals (jwv vs zs) (jwv us ws):=by
 cases r1 with
 | nil=>exact .nil
 | cons a ra=>
  cases ra with
  | nil=>
   cases r2 with
   | nil=>exact .nil
   | cons b rb=>
    cases rb with
    | nil=>exact .cons a (.cons b .nil)
    | cons _ _=>exact .nil
  | cons _ _=>exact .nil
theorem j4f {K:PySem.W.Frag} {fd:FuncData} {p k:Str} {kd:Addr} {v:Value} (e:PySem.W.nsIn K kd k = some (some v)) (hp:fd.params.posonlyargs = []) (ha:fd.params.args.map (·.arg) = [p]) (hv:fd.params.vararg = none) (hk:fd.params.kwonlyargs.map (·.arg) = [k])
  (hkw:fd.params.kwarg = none) (hd:fd.defaults = .none) (hkd:fd.kwdefaults = .ref kd) (hpk:(k == p) = false) : Binds K fd [p,k] [v]:=by
 intro s us KX hl
 obtain ⟨u,rfl⟩ : ∃ u,us = [u]:=by
  match us,hl with
  | [u],_=>exact ⟨u,rfl⟩
  | _ :: _ :: _,hl=>simp at hl
 intro Mo A E Q hq
 have L:=PySem.W.looks_nsIn (M:=Mo) KX e
 unfold bindArgs
 have hz:seqItems? Value.none = pure none:=rfl
 simp only [hp,ha,hv,hk,hkw,hd,hkd,hz,List.map_nil,List.nil_append,List.length_cons,List.length_nil,List.zip_cons_cons,List.zip_nil_right,pure_bind,Option.getD_none,List.forIn_nil]
 simp [List.lookup_cons,hpk]
 refine wpAny_bind (L A _ E s (fun _ _ h=>h) ?_)
 simp [List.lookup_cons,hpk]
 exact wpAny_pure hq
end L2
namespace L2
open PySem PySem.Spec PyProof.Rows
theorem we.there {P:Program} {w:World} {H:Hp} {h:Heap} {a:Addr} {o:HO} (x:we P w H h a o) : ∃ ob,h.get? a = some ob:=by
 cases o with
 | lst xs=>obtain ⟨_,_,_,_,e⟩:=x; exact ⟨_,e⟩
 | tup xs=>obtain ⟨_,_,_,p⟩:=x; obtain ⟨o,e,_⟩:=p; exact ⟨_,e⟩
 | dK kvs=>obtain ⟨_,_,_,_,o,_,_,e,_⟩:=x; exact ⟨_,e⟩
 | dT kvs=>obtain ⟨_,_,_,_,o,_,_,e,_⟩:=x; exact ⟨_,e⟩
 | set S n=>obtain ⟨o,_,_,_,e,_⟩:=x; exact ⟨_,e⟩
 | ins C dx fs=>obtain ⟨_,_,_,e,_⟩:=x; exact ⟨_,e⟩
 | own y=>obtain ⟨_,e⟩:=x; exact ⟨_,e⟩
 | xd fs=>obtain ⟨_,⟨_,_,_,e,_⟩,_⟩:=x; exact ⟨_,e⟩
 | rng lo hi=>obtain ⟨_,_,_,e⟩:=x; exact ⟨_,e⟩
 | frz ob u=>obtain ⟨e,_⟩:=x; exact ⟨_,e⟩
 | tbl ps=>exact ⟨_,(show h.get? a = some _ from x)⟩
 | met f y=>exact ⟨_,(show h.get? a = some _ from x)⟩
 | ext φ=>obtain ⟨_,⟨_,e⟩,_⟩:=x; exact ⟨_,e⟩
structure Fly (P:Program) (w:World) (l:List Env) (H H':Hp) (s s':Shared) (ea:Addr) (cls:Value) : Prop where
 os:s'.os = s.os
 bare:AllBare s'.gens
 un:Un (frs l) [] H H' s.heap s'.heap
 hok:HOk P w H' s'.heap
 fly : ∃ (B:Heap) (t:Addr),Heap.FlyingW B l ea cls (.ref t) s'.heap ∧ (∀ b o o',s.heap.get? b = some o → s'.heap.get? b = some o' → b ∉ frs l → B.get? b = some o') ∧ (∀ b u o',H' b = some u → s'.heap.get? b = some o' → B.get? b = some o')
 new:s.heap.get? ea = none
section
variable {X:Cx} {pins:List (Addr × Obj)} {σ : St} {H H':Hp} {s s':Shared} {ea:Addr} {cls:Value}
theorem Inv.jp2 (I:Inv X pins σ H s) {b:Addr} {o:Obj} (e:X.s₀.heap.get? b = some o) (hb:b ∉ X.fs) : b ∉ frs X.stack:=fun z=>by
 rcases List.mem_cons.mp (I.jpt b z) with q | q
 ·have h1 : @LT.lt Nat _ b X.s₀.heap.objs.size:=Heap.lt_size e
  have h2 : @LE.le Nat _ X.s₀.heap.objs.size X.env.locals:=I.ok.above
  have h3 : @Eq Nat b X.env.locals:=q
  omega
 ·exact hb q
theorem Inv.j6s (I:Inv X pins σ H s) {b:Addr} (hb:b ∈ X.fs) : b ∈ frs X.stack:=by
 rcases I.ok.stk with e | ⟨e,hf⟩
 ·rw [e]; exact hb
 ·rw [e]
  unfold frs
  rw [List.filterMap_cons,hf]
  exact List.mem_cons_of_mem _ hb
theorem j5d (I:Inv X pins σ H s) (hex:X.ex = []) (F:Fly X.prog X.w X.stack H H' s s' ea cls) {h':Heap} {B:Heap} {t:Addr} (hf:Heap.FlyingW B X.outer ea cls (.ref t) h') (hu:s'.heap.UpToSlots h')
    (k1 : ∀ b o o',s.heap.get? b = some o → s'.heap.get? b = some o' → b ∉ frs X.stack → B.get? b = some o') (k2 : ∀ b u o',H' b = some u → s'.heap.get? b = some o' → B.get? b = some o') :
    Fly X.prog X.w X.outer X.H₀ H' X.s₀ { s' with heap:=h' } ea cls:=by
  have base:=I.base
  rw [hex] at base
  have noE : ∀ b:Addr,b ∉ ([] : List Addr):=fun b=>by simp
  have lift : ∀ b o,X.s₀.heap.get? b = some o → b ∉ X.fs → ∃ o1 o2,s.heap.get? b = some o1 ∧ s'.heap.get? b = some o2 ∧ h'.get? b = some o2:=fun b o e hb=>by
    obtain ⟨o1,e1⟩:=base.there b o e (noE b)
    obtain ⟨o2,e2⟩:=F.un.there b o1 e1 (noE b)
    exact ⟨o1,o2,e1,e2,hf.1 _ _ (k1 b o1 o2 e1 e2 (I.jp2 e hb))⟩
  have slots : ∀ b o,X.s₀.heap.get? b = some o → X.H₀ b = none → b ∈ X.fs → ∃ sl,h'.get? b = some { o with slots:=sl }:=fun b o e n hb=>by
    obtain ⟨sl,e1⟩:=base.slot b o e n hb (noE b)
    obtain ⟨sl2,e2⟩:=F.un.slot b _ e1 (base.free b o e n (noE b)) (I.j6s hb) (noE b)
    obtain ⟨_,o3,e3,nf⟩:=I.ok.jt1.mem hb
    rw [e] at e3
    cases e3
    obtain ⟨sl3,e4⟩:=hu b _ e2 nf
    exact ⟨sl3,e4⟩
  refine ⟨F.os.trans I.os,F.bare,⟨fun b o e n hb _=>?_,fun b o e n hb _=>slots b o e n hb,fun b o e n _=>?_,fun b o e _=>?_,fun b xs q=>F.un.jr7 b xs (base.jr7 b xs q),fun b o xs q=>F.un.jrz b o xs (base.jrz b o xs q),fun b ps q=>?_⟩,fun b u e=>?_,⟨B,t,hf,fun b o o' e e' hb=>?_,fun b u o' q e'=>?_⟩,?_⟩
  · have e1:=base.keep b o e n hb (noE b)
    have e2:=F.un.keep b o e1 (base.free b o e n (noE b)) (I.jp2 e hb) (noE b)
    exact hf.1 _ _ (k1 b o o e1 e2 (I.jp2 e hb))
  · obtain ⟨o1,e1⟩:=base.there b o e (noE b)
    exact F.un.free b o1 e1 (base.free b o e n (noE b)) (noE b)
  · by_cases hb:b ∈ X.fs
    · obtain ⟨sl,q⟩:=slots b o e (I.ok.frf b hb) hb
      exact ⟨_,q⟩
    · obtain ⟨_,o2,_,_,q⟩:=lift b o e hb
      exact ⟨o2,q⟩
  · obtain ⟨m1,e1⟩:=base.jsi b ps q
    obtain ⟨m2,e2⟩:=F.un.jsi b _ e1
    exact ⟨m1 ++ m2,by rw [e2,Array.append_assoc]⟩
  · refine (F.hok b u e).jpx (fun c v hc q=>?_) (fun _ q=>q) fun _ _ q=>q
    rcases hc with z | z
    · subst z
      exact hf.1 _ _ (k2 _ _ _ e q)
    · exact hf.1 _ _ (k2 _ _ _ z q)
  · by_cases hfs:b ∈ X.fs
    · exact absurd hfs hb
    · obtain ⟨o1,o2,e1,e2,q⟩:=lift b o e hfs
      have q':h'.get? b = some o':=e'
      rw [q] at q'
      cases q'
      exact k1 b o1 _ e1 e2 (I.jp2 e hfs)
  · obtain ⟨o2,e2⟩:=(F.hok b u q).there
    have z:=k2 b u o2 q e2
    have q':h'.get? b = some o':=e'
    rw [hf.1 _ _ z] at q'
    cases q'
    exact z
  · cases q:X.s₀.heap.get? ea with
    | none=>rfl
    | some o=>
      obtain ⟨o1,e1⟩:=base.there ea o q (noE ea)
      rw [F.new] at e1
      cases e1
end
section
variable {P:Program} {w:World} {K:PySem.W.Frag} {mg:Str → Option Value} {base:Heap} {N:List Str} {qual:Str} {scope:Scope} {f:Addr} {cd:Value} {A:Around} {outer:List Env} {s:Shared} {H:Hp} {E:XK}
end
end L2
namespace L2
open PySem PySem.Spec PyProof.Rows
def j4q:List Value:=[.type "ValueError",.type "Exception",.type "BaseException",.type "object"]
def j5p (K:PySem.W.Frag) (C:Addr) : Prop:=PySem.W.excIn K C j4q "ValueError.__new__" = true
theorem j24 {K:PySem.W.Frag} {h:Heap} {C:Addr} {bmB:List Value} {newId:String} (X:K.In h) (q:PySem.W.excIn K C bmB newId = true) :
  ∃ bm N nm qn bs hdct sn sub ab col dd k0 k1 k2 k3 k5 mN,h.get? C = some (excClassObj nm qn C N bs bm hdct sn sub ab col dd k0 k1 k2 k3 k5 newId) ∧ h.Ns N mN ∧ mN "__init__" = none ∧ OwnTail h bmB bm:=by
 unfold PySem.W.excIn at q
 split at q
 ·rename_i dd cd sl ho
  split at q
  ·rename_i C' bm k0 k1 k2 k3 n k5 hm hs
   simp only [Bool.and_eq_true,beq_iff_eq,Bool.not_eq_true'] at q
   obtain ⟨⟨⟨⟨⟨rfl,rfl⟩,hdel⟩,ht⟩,hok⟩,hni⟩:=q
   obtain ⟨nm,bs,mro,ns,qn,hd,sn,sub,ab,col,del⟩:=cd
   dsimp only at hm hdel hok hni
   subst hm hdel
   have hsl:sl = #[k0,k1,k2,k3,some (.builtin n),k5]:=by
    obtain ⟨l⟩:=sl
    simp only at hs
    rw [hs]
   subst hsl
   exact ⟨bm,ns,nm,qn,bs,hd,sn,sub,ab,col,dd,k0,k1,k2,k3,k5,_,X _ _ ho,.of_isNs (PySem.W.isNs_of_in X hok),PySem.W.nsMap_none_of_in X hok hni,PySem.W.tail_of_in X ht⟩
  ·cases q
 ·cases q
theorem jx7 {K:PySem.W.Frag} {M:Model} {h:Heap} {ea C Pc:Addr} {oe:Obj} {b:Bool} (X:K.In h) (he:h.get? ea = some oe) (hc:oe.cls = .ref C) (m:PySem.W.kitCls K (.ref C) (.ref Pc) = some b) (hb:PySem.W.mroIn K Pc (.type "BaseException") = some true) :
  PySem.W.Looks M h (excMatches (.ref ea) (.ref Pc)) b:=by
 obtain ⟨L1,L2,L3⟩:=PySem.W.kit_cls (M:=M) X m
 have L4:=PySem.W.looks_mroIn (M:=M) X hb
 have L5:PySem.W.Looks M h (typeOf (.ref ea)) (.ref C):=hc ▸ (PySem.W.Looks.ld he).andThen .now
 have f:=tc_notTuple
 intro A Q E s k q
 unfold excMatches isInstance isExcClass
 simp only [bind_assoc]
 refine wpAny_bind (L1 A _ E s k ?_)
 rw [f]
 simp only [pure_bind,Bool.false_eq_true,if_false,List.forIn_cons,List.forIn_nil,bind_assoc]
 refine wpAny_bind (L2 A _ E s k ?_)
 simp only [if_true]
 refine wpAny_bind (L4 A _ E s k ?_)
 simp only [Bool.not_true,Bool.false_eq_true,if_false,pure_bind]
 refine wpAny_bind (L5 A _ E s k ?_)
 refine wpAny_bind (L3 A _ E s k ?_)
 cases b
 ·exact wpAny_pure q
 ·exact wpAny_pure q
def j03 (W:Hp → Prop) (t:TA) : TS:=fun _ σ H=>t σ H fun vs H1=>vs.length ≤ sizeLine ∧ W H1
section
variable {X:Cx}
theorem j0d {x:Str} {C:Addr} {e:Expr} {es:List Expr} {t:TA} {np cpos pos:Pos} {W:Hp → Prop} (hc:X.calm = true) (hg:Gl X x) (hm:X.mg x = some (.ref C)) (hC:j5p X.K C) (ha:PA X (e :: es) t)
  (hxe : ∀ {pins:List (Addr × Obj)} {σ : St} {H:Hp} {s:Shared} {ea:Addr} {vs:List Value} {h1:Heap},Inv X pins σ H s → Heap.MadeExcOf s.heap h1 ea (.ref C) vs → W H → X.xe (.ref ea) { s with heap:=h1 })
  (hdb:(x == ("__debug__" : Str)) = false:=by decide) (he:starEach (e :: es) X.env = (false,eval e X.env) :: starEach es X.env:=by rfl) (hpl:(backTo cpos (starEach es X.env)).any (·.1) = false:=by rfl) :
  PS X (.Raise (some (.Call (.Name x np) (e :: es) [] cpos)) none pos) (j03 W t):=by
 intro pins s σ H D I h
 obtain ⟨bm,N,nm,qn,bs,hdct,sn,sub,ab,col,dd,k0,k1,k2,k3,k5,mN,hC,hN,hni,T⟩:=j24 I.mod.kin hC
 have FB:=F.excBase_ValueError
 refine wpAny_Raise_call_subT (C:=C) (nm:=nm) (q:=qn) (N:=N) (bs:=bs) (bm:=bm) (hdct:=hdct) (sn:=sn) (sub:=sub) (ab:=ab) (col:=col) (dd:=dd) (k0:=k0) (k1:=k1) (k2:=k2) (k3:=k3) (k5:=k5)
  FB (mN:=mN) (T.hasType FB.hasBase) (I.ok.hd hc) (by rw [he]; show (false || (backTo cpos (starEach es X.env)).any (·.1)) = false; rw [hpl]; rfl) hni (jhq I hg hm ⟨rfl,?_⟩ hdb)
 have hA:=ha cpos pins s σ H _ I h
 rw [he] at hA ⊢
 exact Calls.evalArgs_plain (thn hA fun us s2 ⟨vs,H2,I2,r2,hz,q2⟩=>⟨rfl,by rw [← r2.length]; exact hz,I2.bk _ _ hC,hN.keeps I2.bk,T.keeps I2.bk,fun h' e hm=>hxe I2 hm q2⟩)
end
def jvy (X:Cx) (ea:Addr) : Cx:={ X with A:=X.A.mark (some (.ref ea)),calm:=false,xe:=fun _ _=>False }
def jsk (ea:Addr) (cls:Value) : HO:=.ext fun h=>∃ o vs,h.get? ea = some o ∧ o.cls = cls ∧ o.data = .fields vs
section
variable {X:Cx} {pins pn:List (Addr × Obj)} {σ : St} {H H':Hp} {s s':Shared}
theorem Inv.jy6 {X Y:Cx} (I:Inv X pins σ H s) (ok:Y.Ok) (hs:Y.s₀ = X.s₀) (hH:Y.H₀ = X.H₀) (he:Y.env = X.env) (ho:Y.outer = X.outer) (hx:Y.ex = X.ex) (hN:Y.N = X.N) (hp:Y.prog = X.prog) (hw:Y.w = X.w)
  {pins':List (Addr × Obj)} (hpin : ∀ p ∈ Y.pn ++ pins',p ∈ X.pn ++ pins) : Inv Y pins' σ H s:=by
 obtain ⟨prog,w,K,mg,base,A,N,s₀,H₀,env,outer,stack,ex,fn,calm,pnX,xe⟩:=X
 obtain ⟨prog',w',K',mg',base',A',N',s₀',H₀',env',outer',stack',ex',fn',calm',pnY,xe'⟩:=Y
 dsimp only at hs hH he ho hx hN hp hw
 subst hs hH he ho hx hN hp hw
 exact ⟨ok,I.os,I.bare,I.base,I.loc,I.cell,I.free,I.jfe,fun p hp=>I.pin p (hpin p hp),I.hok,I.len⟩
theorem Cx.Ok.jy6 {X Y:Cx} (ok:X.Ok) (hm:Y.K = X.K ∧ Y.mg = X.mg ∧ Y.base = X.base) (he:Y.env = X.env) (hs:Y.s₀ = X.s₀) (hH:Y.H₀ = X.H₀) (ho:Y.outer = X.outer) (hst:Y.stack = X.stack) (hx:Y.ex = X.ex) (hf:Y.fn = X.fn)
  (hd:Y.calm = true → Y.A.handled = none) (hfr:Y.A.frames = some Y.stack) : Y.Ok:=by
 obtain ⟨prog,w,K,mg,base,A,N,s₀,H₀,env,outer,stack,ex,fn,calm,pnX,xe⟩:=X
 obtain ⟨prog',w',K',mg',base',A',N',s₀',H₀',env',outer',stack',ex',fn',calm',pnY,xe'⟩:=Y
 obtain ⟨hm1,hm2,hm3⟩:=hm
 dsimp only at hm1 hm2 hm3 he hs hH ho hst hx hf
 subst hm1 hm2 hm3 he hs hH ho hst hx hf
 exact ⟨ok.mod,ok.kind,ok.glob,ok.blt,ok.above,ok.inj,ok.has,ok.cab,hd,hfr,ok.stk,ok.exf,ok.bs,ok.bsz,ok.j2s,ok.j3r,ok.jt1,ok.frf⟩
theorem Inv.j01 {pins':List (Addr × Obj)} (I:Inv { X with pn:=pn } pins' σ H s) (h : ∀ p ∈ X.pn ++ pins,p ∈ pn) : Inv X pins σ H s:=
 I.jy6 (Y:=X) (I.ok.jy6 (Y:=X) ⟨rfl,rfl,rfl⟩ rfl rfl rfl rfl rfl rfl rfl I.ok.hd I.ok.frames) rfl rfl rfl rfl rfl rfl rfl rfl fun p hp=>List.mem_append_left _ (h p hp)
theorem Inv.j5q {ea:Addr} (I:Inv X pins σ H s) : Inv (jvy X ea) pins σ H s:=
 I.jy6 (Y:=jvy X ea) (I.ok.jy6 (Y:=jvy X ea) ⟨rfl,rfl,rfl⟩ rfl rfl rfl rfl rfl rfl rfl (fun z=>by have z':false = true:=z; cases z') I.ok.frames) rfl rfl rfl rfl rfl rfl rfl rfl fun _ hp=>hp
theorem Inv.j0c {ea:Addr} (ok:X.Ok) (I:Inv (jvy X ea) pins σ H s) : Inv X pins σ H s:=I.jy6 (Y:=X) ok rfl rfl rfl rfl rfl rfl rfl rfl fun _ hp=>hp
theorem j14 {CX:CXT} {k:Nat} {f:Addr} {fd:FuncData} {ps:List Str} {sp:Sp} {dvs:List V} {ds:List Value} {E:XK} {Q:VK} {us:List Value} {vs:List V} (F:yf X.prog X.w X.K X.mg X.base CX k f fd ps sp) (hr:jfi k X.A) (hb:Binds X.K fd ps ds) (hd:Vals dvs ds)
  (I:Inv X pins σ H s) (hx : ∀ e s',CX X.stack H s E e s' → X.xe e s') (r:Vals vs us) (h:sp (vs ++ dvs) H Q E) : wpAny (model X.prog X.w) X.A (call (.ref f) us) (EP X pins σ Q) X.xe s:=by
 have r2:Vals (vs ++ dvs) (us ++ ds):=r.append hd
 have hl:(us ++ ds).length = ps.length:=by rw [← r2.length]; exact F.len _ _ _ _ h
 refine wpAny_call (codeAny_mono (F.run X.A X.stack s H ⟨us,[]⟩ (us ++ ds) (vs ++ dvs) Q E hr I.j3k (hb s us I.kIn hl) r2 h) fun r s' hq=>?_)
 cases r with
 | error e=>exact hx e s' hq
 | ok fl=>
  cases fl with
  | ret u=>exact I.after hq
  | next=>exact False.elim hq
  | brk=>exact False.elim hq
  | cont=>exact False.elim hq
theorem ju6 {ea:Addr} {cls:Value} (I:Inv X pins σ H s) (F:Fly X.prog X.w X.stack H H' s s' ea cls) {h':Heap} {B:Heap} {t:Addr} (hf:Heap.FlyingW B X.stack ea cls (.ref t) h') (hu:s'.heap.UpToSlots h')
    (k1 : ∀ b o o',s.heap.get? b = some o → s'.heap.get? b = some o' → b ∉ frs X.stack → B.get? b = some o') (k2 : ∀ b u o',H' b = some u → s'.heap.get? b = some o' → B.get? b = some o') :
    Inv X pins σ H' { s' with heap:=h' }:=by
  have noE : ∀ b:Addr,b ∉ ([] : List Addr):=fun b=>by simp
  have slots : ∀ b o,s.heap.get? b = some o → H b = none → b ∈ frs X.stack → ∃ sl,h'.get? b = some { o with slots:=sl }:=fun b o e n hb=>by
    obtain ⟨sl2,e2⟩:=F.un.slot b _ e n hb (noE b)
    obtain ⟨_,o3,e3,nf⟩:=I.stack.mem hb
    rw [e] at e3
    cases e3
    obtain ⟨sl3,e4⟩:=hu b _ e2 nf
    exact ⟨sl3,e4⟩
  refine I.j25 (ch:=[]) F.os ⟨fun b o e n hb _=>?_,fun b o e n hb _=>slots b o e n hb,fun b o e n _=>F.un.free b o e n (noE b),fun b o e _=>?_,F.un.jr7,F.un.jrz,F.un.jsi⟩ (fun b u e=>?_) F.bare fun b z=>absurd z (noE b)
  · have e2:=F.un.keep b o e n hb (noE b)
    exact hf.1 _ _ (k1 b o o e e2 hb)
  · by_cases hb:b ∈ frs X.stack
    · obtain ⟨sl,q⟩:=slots b o e (I.jr0 b hb) hb
      exact ⟨_,q⟩
    · obtain ⟨o2,e2⟩:=F.un.there b o e (noE b)
      exact ⟨o2,hf.1 _ _ (k1 b o o2 e e2 hb)⟩
  · refine (F.hok b u e).jpx (fun c v hc q=>?_) (fun _ q=>q) fun _ _ q=>q
    rcases hc with z | z
    · subst z
      exact hf.1 _ _ (k2 _ _ _ e q)
    · exact hf.1 _ _ (k2 _ _ _ z q)
theorem Inv.j2v {a:Addr} {o:HO} (I:Inv X pins σ H s) (hex:X.ex = []) (hn:H a = none) (h0:X.s₀.heap.get? a = none) (hL:a ≠ X.env.locals) (hc : ∀ x c,X.env.cells.lookup x = some c → c ≠ a) (hp : ∀ p ∈ X.pn ++ pins,p.1 ≠ a)
    (new:we X.prog X.w (upd H a o) s.heap a o) : Inv X pins σ (upd H a o) s:=by
  have ne0 : ∀ b ob,X.s₀.heap.get? b = some ob → b ≠ a:=fun b ob e z=>by rw [z,h0] at e; cases e
  refine ⟨I.ok,I.os,I.bare,⟨I.base.keep,I.base.slot,fun b ob e n hx=>?_,I.base.there,fun b xs q=>?_,fun b ob u q=>?_,fun b ps q=>?_⟩,I.loc,I.cell,?_,fun x c e=>?_,fun p hpp=>?_,fun b u e=>?_,I.len⟩
  · rw [je (ne0 b ob e)]; exact I.base.free b ob e n hx
  · rw [je (jk (I.base.jr7 b xs q) hn)]; exact I.base.jr7 b xs q
  · rw [je (jk (I.base.jrz b ob u q) hn)]; exact I.base.jrz b ob u q
  · obtain ⟨more,z⟩:=I.base.jsi b ps q
    exact ⟨more,by rw [je (jk z hn)]; exact z⟩
  · rw [je (Ne.symm hL)]; exact I.free
  · rw [je (hc x c e)]; exact I.jfe x c e
  · obtain ⟨q1,q2,q3⟩:=I.pin p hpp
    exact ⟨q1,by rw [je (hp p hpp)]; exact q2,q3⟩
  · by_cases hb:b = a
    · subst hb
      rw [ja] at e
      cases e
      exact new
    · rw [je hb] at e
      exact (I.hok b u e).jpx (fun _ _ _ q=>q) (fun c q=>by rw [je (jk q hn)]; exact q) fun c xs q=>by rw [je (jk q hn)]; exact q
theorem Inv.unset {i:Nat} {n:Str} (I:Inv X pins σ H s) (hN:X.N.Nodup) (hi:X.N[i]? = some n) {m:Str → Option Value} (hm:s.heap.Ns X.env.locals m)
    (hl : ∀ (i:Nat) (x:Str) (v:V),X.N[i]? = some x → σ[i]? = some (some v) → Vis X.env.scope x → ∃ u,RelV v u ∧ Look X.env s.heap m x u) {h':Heap} {u:Option Value} (hn':h'.Ns X.env.locals (fun x=>if x = n then u else m x))
    (hs:Heap.SameBut X.env.locals s.heap h') : Inv X pins (σ.set i none) H { s with heap:=h' }:=by
  obtain ⟨oL,_,_,hoL,_⟩:=id hm
  have hiσ : i < σ.length:=by rw [I.len]; exact (List.getElem?_eq_some_iff.mp hi).1
  have cne:=I.cne
  refine ⟨I.ok,I.os,I.bare,⟨fun b o e n hb hx=>?_,fun b o e n hb hx=>?_,I.base.free,fun b o e hx=>?_,I.base.jr7,I.base.jrz,I.base.jsi⟩,⟨_,hn',fun j y v' e1 e2 e3=>?_⟩,fun y c e=>?_,I.free,I.jfe,fun p hp=>?_,fun b ob e=>?_,by simpa using I.len⟩
  · exact (hs.2 b (Nat.ne_of_lt (Nat.lt_of_lt_of_le (Heap.lt_size e) I.ok.above))).trans (I.base.keep b o e n hb hx)
  · obtain ⟨sl,e1⟩:=I.base.slot b o e n hb hx
    exact ⟨sl,(hs.2 b (Nat.ne_of_lt (Nat.lt_of_lt_of_le (Heap.lt_size e) I.ok.above))).trans e1⟩
  · obtain ⟨o',e1⟩:=I.base.there b o e hx
    exact ⟨o',(hs.2 b (Nat.ne_of_lt (Nat.lt_of_lt_of_le (Heap.lt_size e) I.ok.above))).trans e1⟩
  · by_cases hj:j = i
    · subst hj
      rw [List.getElem?_set_self hiσ] at e2
      cases e2
    · rw [List.getElem?_set_ne (Ne.symm hj)] at e2
      obtain ⟨u',r',q⟩:=hl j y v' e1 e2 e3
      refine ⟨u',r',?_⟩
      rcases q with ⟨k,e⟩ | ⟨k,c,e,z⟩
      · refine .inl ⟨k,?_⟩
        have:y ≠ n:=fun e=>hj (jr2 hN e1 (e ▸ hi))
        simp [this,e]
      · exact .inr ⟨k,c,e,z.sameBut hs (cne y c e)⟩
  · obtain ⟨w',z⟩:=I.cell y c e
    exact ⟨w',z.sameBut hs (cne y c e)⟩
  · obtain ⟨e,n,ne,nf,d⟩:=I.pin p hp
    exact ⟨(hs.2 p.1 ne).trans e,n,ne,nf,d⟩
  · refine (I.hok b ob e).jpx (fun c w' hc q=>(hs.2 c ?_).trans q) (fun _ q=>q) fun _ _ q=>q
    have fr:=I.free
    rintro rfl
    rcases hc with rfl | hc
    · rw [fr] at e; cases e
    · rw [fr] at hc; cases hc
end
end L2
namespace L2
open PySem PySem.Spec PyProof.Rows
section
variable {X:Cx}
end
end L2
namespace L2
open PySem PySem.Spec PyProof.Rows
structure XIs (K:PySem.W.Frag) (C:Addr) : Prop where
 ga:PySem.W.findIn K (.ref C) "__getattribute__" = some (some (.builtin "BaseException.__getattribute__"))
 gn:PySem.W.findIn K (.ref C) "__getattr__" = some none
 cl:PySem.W.findIn K (.ref C) "__class__" = some (some (.builtin "object.__class__"))
 be:PySem.W.mroIn K C (.type "BaseException") = some true
 ob:PySem.W.mroIn K C (.type "object") = some true
 is:(PySem.W.clsIn K C).isSome = true
section
variable {prog:Program} {w:World} {A:Around} {E:Value → Shared → Prop} {K:PySem.W.Frag} {h:Heap} {g:Array GenState} {d:Drawn} {t:Nat} {os:OsState} {a C:Addr} {o:Obj}
theorem j16 {M:Model} (hx:h.get? a = some o) (hc:o.cls = .ref C) : PySem.W.Looks M h (typeOf (.ref a)) (.ref C):=hc ▸ (PySem.W.Looks.ld hx).andThen .now
theorem j5f {R:Result → Shared → Prop} {tp:Value} (X:K.In h) (I:XIs K C) (hx:h.get? a = some o) (hc:o.cls = .ref C) (hq:R (.ok (.ret (.ref C))) ⟨h,g,d,t,os⟩) :
  codeAny (model prog w) A (.call (.builtin "getset_descriptor.__get__") ⟨[.builtin "object.__class__",.ref a,tp],[]⟩) R ⟨h,g,d,t,os⟩:=by
 have L1:=PySem.W.looks_mroIn (M:=model prog w) X I.ob
 have hT5:(⟨h,g,d,t,os⟩ : Shared).TypeIs (.builtin "object.__class__") "getset_descriptor" := F.typeOf_object_class
 refine codeAny_call_builtin F.slot_gs_get.plain F.entry_gs_get (F.slot_gs_get.check _ _ _ _ _ _ _ _ hT5 (F.args_gs_get _ _ _) ?_)
 have ow:=F.owner_object_class
 repeat (any_goals (first | assumption | (with_reducible refine wpAny_loadPart_at hx ?_; rw [hc]) | (rw [ow]; with_reducible refine L1.at ?_) | (with_reducible refine L1.at ?_) | wp_step))
 refine ⟨Code.quiet_builtin _ (by decide +kernel),codeAny_builtin F.entry_object_class ?_⟩
 repeat (any_goals (first | assumption | (with_reducible refine wpAny_loadPart_at hx ?_; rw [hc]) | wp_step))
theorem jz6 {tk:Tok} {Q:Fin → Shared → Prop} (X:K.In h) (I:XIs K C) (hx:h.get? a = some o) (hc:o.cls = .ref C) (hq:Q (.done (.ret (.ref C))) ⟨h,g,d,t,os⟩) :
  wpAny (model prog w) A (Builtin.«object.__getattribute__» ⟨[.ref a,.str "__class__" tk],[]⟩) Q E ⟨h,g,d,t,os⟩:=by
 have hT5:(⟨h,g,d,t,os⟩ : Shared).TypeIs (.builtin "object.__class__") "getset_descriptor" := F.typeOf_object_class
 have f5:=F.typeOf_object_class
 have f6:=F.slot_gs_get.lookup
 have f7:=F.slot_gs_set.lookup
 have L1:=PySem.W.looks_findIn (M:=model prog w) X I.cl
 repeat (any_goals (first | assumption | (with_reducible refine wpAny_loadPart_at hx ?_; rw [hc]) | (with_reducible refine L1.at ?_) | wp_step))
 refine j5f X I hx hc ?_
 repeat (any_goals (first | assumption | wp_step))
theorem jzf {M:Model} {nameV:Value} {Q:Unit → Shared → Prop} (X:K.In h) (I:XIs K C) (hx:h.get? a = some o) (hc:o.cls = .ref C) (hq:Q () ⟨h,g,d,t,os⟩) : wpAny M A (checkBuiltinCall "BaseException.__getattribute__" ⟨[.ref a,nameV],[]⟩) Q E ⟨h,g,d,t,os⟩:=by
 have hk:builtinKind "BaseException.__getattribute__" = some .slot:=by decide +kernel
 have hsplit:splitId "BaseException.__getattribute__" = some ("BaseException","__getattribute__"):=by decide +kernel
 have L1:=PySem.W.looks_mroIn (M:=M) X I.be
 have ha:=F.args_bexc_ga (.ref a) nameV
 simp only [checkBuiltinCall,hk,hsplit]
 refine wpAny_bind ?_
 ·unfold isInstance
  repeat (first | (with_reducible refine wpAny_loadPart_at hx ?_; rw [hc]) | (with_reducible refine L1.at ?_) | wp_step)
  exact hq
theorem j22 {tk:Tok} {R:Result → Shared → Prop} (X:K.In h) (I:XIs K C) (hx:h.get? a = some o) (hc:o.cls = .ref C) (hq:R (.ok (.ret (.ref C))) ⟨h,g,d,t,os⟩) :
  codeAny (model prog w) A (.call (.builtin "BaseException.__getattribute__") ⟨[.ref a,.str "__class__" tk],[]⟩) R ⟨h,g,d,t,os⟩:=
 codeAny_call_builtin F.attr_ValueError.ga.plain F.entry_bexc_ga (jzf X I hx hc (jz6 X I hx hc hq))
theorem j60 {tk:Tok} {Q:Value → Shared → Prop} (X:K.In h) (I:XIs K C) (hx:h.get? a = some o) (hc:o.cls = .ref C) (hq:Q (.ref C) ⟨h,g,d,t,os⟩) :
  wpAny (model prog w) A (getAttrBy (.ref a) (.str "__class__" tk) false) Q E ⟨h,g,d,t,os⟩:=by
 have f3:=F.attr_ValueError.ga.bind (.ref a)
 have L1:=PySem.W.looks_findIn (M:=model prog w) X I.ga
 have L2:=PySem.W.looks_findIn (M:=model prog w) X I.gn
 have hx2:(Value.builtin "BaseException.__getattribute__" == Value.builtin "object.__getattribute__") = false:=by decide +kernel
 have hx1:(onTheHeap (Value.ref C) && Value.builtin "BaseException.__getattribute__" == Value.builtin "object.__getattribute__") = false:=by rw [hx2]; rfl
 repeat (any_goals (first | assumption | (with_reducible refine wpAny_loadPart_at hx ?_; rw [hc]) | (with_reducible refine L1.at ?_) | (with_reducible refine L2.at ?_) | wp_step))
 refine j22 X I hx hc ?_
 repeat (any_goals (first | assumption | wp_step))
theorem j2f {Q:Option Value → Shared → Prop} (X:K.In h) (I:XIs K C) (hx:h.get? a = some o) (hc:o.cls = .ref C) (hq:Q (some (.ref C)) ⟨h,g,d,t + 1,os⟩) : wpAny (model prog w) A (getAttr? (.ref a) "__class__") Q E ⟨h,g,d,t,os⟩:=by
 unfold getAttr? getAttrBy?
 repeat (any_goals (first | assumption | with_reducible apply j60 X I hx hc | wp_step))
end
theorem j0n {K:PySem.W.Frag} {ea C:Addr} (I:XIs K C) : PySem.W.KitX K (.ref ea) (.ref C) (fun h=>∃ o vs,h.get? ea = some o ∧ o.cls = .ref C ∧ o.data = .fields vs) where
 ty:=fun _ _ _ ⟨o,_,h1,h2,_⟩=>j16 h1 h2
 it:=fun _ _ X _=>by
  have hcD:=I.is
  unfold PySem.W.clsIn at hcD
  split at hcD
  ·rename_i c' d' cd' sl' ho
   intro A' Q' E' s' k q
   unfold isType loadHead
   exact wpAny_bind (wpAny_loadPart (k _ _ (X _ _ ho)) (wpAny_pure q))
  ·cases hcD
 ne:=fun h tp dd its n sl X htp=>by
  refine Bool.eq_false_iff.mpr fun q=>?_
  have e:C = tp:=Value.ref.inj (beq_iff_eq.mp q)
  subst e
  have hcD:=I.is
  unfold PySem.W.clsIn at hcD
  split at hcD
  ·rename_i c' d' cd' sl' ho
   have z:=(X _ _ ho).symm.trans htp
   cases z
  ·cases hcD
 ca:=fun {_ _ _ _ _ s} X ⟨o,_,h1,h2,_⟩ k=>by
  obtain ⟨hh,g,d,t,os⟩:=s
  exact j2f X I h1 h2 k
section
variable {X:Cx}
theorem zu:jnm X (.builtin "isinstance") (fun xs H Q=>∃ ea C y c b,xs = [.ref ea,y] ∧ H ea = some (jsk ea (.ref C)) ∧ XIs X.K C ∧ RelV y c ∧ PySem.W.kitOne X.K (.ref C) c = some b ∧ Q (.bl b) H):=by
 intro pins s σ H xs us Q I r h
 obtain ⟨ea,C,y,c,b,rfl,hH,hX,ry,hk,q⟩:=h
 obtain ⟨u,w,rfl,r1,r2⟩:=vals2 r
 obtain rfl:u = Value.ref ea:=r1
 have hw:w = c:=by
  cases y with
  | ref z=>exact (show w = Value.ref z from r2).trans (show c = Value.ref z from ry).symm
  | ty z=>exact (show w = Value.type z from r2).trans (show c = Value.type z from ry).symm
  | non=>exact (show w = Value.none from r2).trans (show c = Value.none from ry).symm
  | bl z=>exact (show w = Value.bool z from r2).trans (show c = Value.bool z from ry).symm
  | int z=>
   exfalso
   obtain ⟨_,rfl⟩:=ry
   unfold PySem.W.kitOne PySem.W.kitCls at hk
   simp at hk
  | str z=>
   exfalso
   obtain ⟨_,rfl⟩:=ry
   unfold PySem.W.kitOne PySem.W.kitCls at hk
   simp at hk
  | byt z=>
   exfalso
   obtain ⟨_,rfl⟩:=ry
   unfold PySem.W.kitOne PySem.W.kitCls at hk
   simp at hk
  | flt z=>
   exfalso
   obtain ⟨_,rfl⟩:=ry
   unfold PySem.W.kitOne PySem.W.kitCls at hk
   simp at hk
 subst hw
 obtain ⟨p,_,_⟩:=(show we X.prog X.w H s.heap ea (jsk ea (.ref C)) from I.hok ea _ hH)
 exact PySem.W.kia_one (j0n hX) I.kIn p hk (fun z=>nomatch z) fun tk=>⟨.bl b,H,I.tok tk,rfl,q⟩
end
end L2
namespace L2
open PySem PySem.Spec PyProof.Rows
theorem jxx {A:Around} {s:Shared} (k:Bool) (bs:List Bool) : ∀ y,y ∈ (bs.map Value.bool).toArray → SeqAt.EqAt A s y (.bool k) (isBoolOf k y):=fun y hy=>by
 have hy':y ∈ bs.map Value.bool:=by simpa using hy
 obtain ⟨b,_,rfl⟩:=List.mem_map.mp hy'
 exact SeqAt.EqAt.bool_bool b k
theorem jsm (k:Bool) : ∀ bs:List Bool,(bs.map Value.bool).countP (isBoolOf k) = bs.count k
 | []=>rfl
 | b :: bs=>by
  rw [List.map_cons,List.countP_cons,List.count_cons,jsm k bs]
  rfl
def j2y (K:PySem.W.Frag) : V → List V → Hp → VK → Prop:=fun x vs H Q=>∃ (l:Addr) (bs:List Bool) (k:Bool),x = .ref l ∧ vs = [.bl k] ∧ SqL K H l (bs.map V.bl) ∧ Q (.int (bs.count k)) H
def j3f (K:PySem.W.Frag) : V → List V → Hp → VK → Prop:=fun x vs H Q=>∃ (l:Addr) (bs:List Bool) (k:Bool),x = .ref l ∧ vs = [.bl k] ∧ SqL K H l (bs.map V.bl) ∧ k ∈ bs ∧ Q (.int (bs.idxOf k)) H
section
variable {X:Cx}
theorem jxm:MtR X "list.count" (j2y X.K):=by
 intro pins s σ H x vs v us Q I rx rv h
 obtain ⟨l,bs,k,rfl,rfl,hH,q⟩:=h
 cases rx
 obtain ⟨u,rfl,ru⟩:=rv.one
 obtain rfl:u = Value.bool k:=ru
 obtain ⟨its,r,pl,hz⟩:=I.list hH
 have e:=jq9 r
 subst e
 obtain ⟨⟨cls,dd,data,sl⟩,ho,hc,n,hd⟩:=pl.isList
 simp only at hc hd
 subst hc hd
 refine call_meets PySem.F.slot_list_count ⟨_,ho,rfl⟩ PySem.F.entry_list_count (PySem.F.args_list_count_2 _ _) (SeqAt.list_countAt l _ n dd sl (.bool k) (isBoolOf k)) ⟨ho,fun y hy=>jxx k bs y hy,?_⟩
 rw [show (bs.map Value.bool).toArray.toList = bs.map Value.bool from rfl,jsm k bs]
 exact ⟨.int (bs.count k),H,I.tok _,⟨_,rfl⟩,q⟩
theorem jxh:MtR X "list.index" (j3f X.K):=by
 intro pins s σ H x vs v us Q I rx rv h
 obtain ⟨l,bs,k,rfl,rfl,hH,hk,q⟩:=h
 cases rx
 obtain ⟨u,rfl,ru⟩:=rv.one
 obtain rfl:u = Value.bool k:=ru
 obtain ⟨its,r,pl,hz⟩:=I.list hH
 have e:=jq9 r
 subst e
 obtain ⟨⟨cls,dd,data,sl⟩,ho,hc,n,hd⟩:=pl.isList
 simp only at hc hd
 subst hc hd
 have hj:bs.idxOf k < bs.length:=List.idxOf_lt_length_iff.mpr hk
 have hz':bs.length ≤ sizeLine:=by rw [List.length_map] at hz; exact hz
 have hs:(sizeLine:Int) < 2 ^ 63 - 1:=by decide
 refine call_meets PySem.F.slot_list_index ⟨_,ho,rfl⟩ PySem.F.entry_list_index (PySem.F.args_list_index_2 _ _)
  (SeqAt.list_indexAt l _ n dd sl (.bool k) (isBoolOf k) (bs.idxOf k) (by simpa using hj) (by omega) ?_ ?_) ⟨ho,fun y hy=>jxx k bs y hy,?_⟩
 ·have e:(bs.map Value.bool).toArray[bs.idxOf k]'(by simpa using hj) = Value.bool (bs[bs.idxOf k]):=by simp
  rw [e]
  show (bs[bs.idxOf k] == k) = true
  simpa using List.getElem_idxOf hj
 ·intro j hjs hlt
  have hjl:j < bs.length:=by simpa using hjs
  have e:(bs.map Value.bool).toArray[j]'hjs = Value.bool (bs[j]):=by simp
  rw [e]
  show (bs[j] == k) = false
  exact Bool.eq_false_iff.mpr fun z=>by simpa [z] using List.not_of_lt_findIdx (p:=(· == k)) (xs:=bs) (i:=j) hlt
 ·exact ⟨.int (bs.idxOf k),H,I.tok _,⟨_,rfl⟩,q⟩
end
section
variable {P:Program} {w:World} {K:PySem.W.Frag} {mg:Str → Option Value} {base:Heap}
end
end L2
namespace L2
open PySem
def kinds (K:PySem.W.Frag) (C:Value) (Ds:List Value) : List (Option Bool):=Ds.map (PySem.W.kitOne K C)
end L2
namespace L2
open PySem PySem.Spec PyProof.Rows
def isStar:Expr → Bool
 | .Starred _ _=>true
 | _=>false
theorem jue {e:Expr} {es:List Expr} {env:Env} (h:isStar e = false) : starEach (e :: es) env = (false,eval e env) :: starEach es env:=by
 cases e <;> first | rfl | cases h
section
variable {X:Cx} {e:Expr} {es:List Expr} {te:TE} {t:TA}
theorem jc (ha:PE X e te) (hr:PA X es t) (h:isStar e = false:=by rfl) : PA X (e :: es) (vy te t):=j2a ha hr (jue h)
end
end L2
namespace L2
open PySem PySem.Spec PyProof.Rows
section
variable {prog:Program} {w:World} {A:Around} {E:Value → Shared → Prop} {s:Shared}
end
section
variable {X:Cx}
end
def j3l {α : Type} : List α → List α → List α
 | [u0],[w0,w1]=>[u0,w0,w1]
 | _,_=>[]
theorem j0i {vs:List V} {us:List Value} {zs:List V} {ws:List Value} (r1:Vals vs us) (r2:Vals zs ws) : Vals (j3l vs zs) (j3l us ws):=by
 rcases r1 with _ | ⟨a,_ | ⟨_,_⟩⟩ <;> rcases r2 with _ | ⟨b,_ | ⟨c,_ | ⟨_,_⟩⟩⟩
 all_goals first | exact .nil | exact .cons a (.cons b (.cons c .nil))
end L2
namespace L2
open PySem PySem.Spec PyProof.Rows
section
open PySem.SeqAt
open PySem.MeetsSeq PySem.MeetsSeq2 PySem.MeetsSeq3
end
end L2
namespace L2
open PySem PySem.Spec PyProof.Rows
section
variable {X:Cx}
end
end L2
namespace HT
open PySem PyProof.Rows
section
variable {prog:Program} {w:World} {A:Around} {E:Value → Shared → Prop} {s:Shared}
end
end HT
namespace L2
open PySem PySem.Spec PyProof.Rows
section
variable {X:Cx}
end
end L2
namespace L2
open PySem PySem.Spec PyProof.Rows
section
variable {X:Cx} {e v1 v2:Expr} {es:List Expr} {te:TE} {t:Str → TE} {pos:Pos}
end
end L2
namespace L2
open PySem PySem.Spec PyProof.Rows
section
variable {X:Cx} {pins:List (Addr × Obj)} {σ : St} {H:Hp} {s:Shared} {a:Addr} {o:Obj} {u:HO}
theorem Inv.freeze (I:Inv X pins σ H s) (hm:Mut (some u)) (ha:H a = some u) (ho:s.heap.get? a = some o) : Inv X pins σ (upd H a (.frz o u)) s:=by
 have new:we X.prog X.w (upd H a (.frz o u)) s.heap a (.frz o u):=by
  refine ⟨ho,(I.hok a u ha).jpx (fun _ _ _ q=>q) (fun c q=>?_) fun c xs q=>?_⟩
  ·have hc:c ≠ a:=fun z=>by
    subst z
    rw [ha] at q
    cases q
    exact hm
   rw [je hc]
   exact q
  ·have hc:c ≠ a:=fun z=>by
    subst z
    rw [ha] at q
    cases q
    exact hm
   rw [je hc]
   exact q
 exact I.write (t':=s.toks) (x:=a) (e:=a) (o:=.frz o u) (h':=s.heap) (by rw [ha]; exact hm) (.inl rfl) (fun b v _ q=>q) ⟨o,ho⟩ new
theorem Inv.j5y (I:Inv X pins σ H s) (ha:H a = some (.frz o u)) (h0 : ∀ o' u',X.H₀ a ≠ some (.frz o' u')) (hm:Mut (some u)) : Inv X pins σ (upd H a u) s:=by
 have ne : ∀ {b:Addr} {v:HO},H b = some v → (∀ o' u',v ≠ .frz o' u') → b ≠ a:=fun {b v} e h z=>by
  subst z
  rw [ha] at e
  exact h _ _ (Option.some.inj e).symm
 have nen : ∀ {b:Addr},H b = none → b ≠ a:=fun {b} e z=>by
  subst z
  rw [ha] at e
  cases e
 refine ⟨I.ok,I.os,I.bare,⟨I.base.keep,I.base.slot,fun b ob e n hx=>?_,I.base.there,fun b xs q=>?_,fun b ob v q=>?_,fun b ps q=>?_⟩,I.loc,I.cell,?_,fun x c e=>?_,fun p hp=>?_,fun b v e=>?_,I.len⟩
 ·have q:=I.base.free b ob e n hx
  rw [je (nen q)]
  exact q
 ·have q':=I.base.jr7 b xs q
  rw [je (ne q' fun _ _ z=>nomatch z)]
  exact q'
 ·have hb:b ≠ a:=fun z=>by
   subst z
   exact h0 _ _ q
  rw [je hb]
  exact I.base.jrz b ob v q
 ·obtain ⟨more,z⟩:=I.base.jsi b ps q
  exact ⟨more,by rw [je (ne z fun _ _ z=>nomatch z)]; exact z⟩
 ·rw [je (nen I.free)]
  exact I.free
 ·rw [je (nen (I.jfe x c e))]
  exact I.jfe x c e
 ·obtain ⟨q1,q2,q3⟩:=I.pin p hp
  exact ⟨q1,by rw [je (nen q2)]; exact q2,q3⟩
 ·have own : ∀ (c y:Addr),H c = some (.own y) → upd H a u c = some (.own y):=fun c y q=>by
   rw [je (ne q fun _ _ z=>nomatch z)]
   exact q
  have tup : ∀ (c:Addr) (xs:List V),H c = some (.tup xs) → upd H a u c = some (.tup xs):=fun c xs q=>by
   rw [je (ne q fun _ _ z=>nomatch z)]
   exact q
  by_cases hb:b = a
  ·subst hb
   rw [ja] at e
   cases e
   obtain ⟨_,q⟩:=I.hok _ _ ha
   exact q.jpx (fun _ _ _ q=>q) (fun c q=>own c _ q) tup
  ·rw [je hb] at e
   exact (I.hok b v e).jpx (fun _ _ _ q=>q) (fun c q=>own c _ q) tup
def j5t (H0:Hp) (t:TS) : TS:=fun D σ H=>
 let un:(Hp → Prop) → Hp → Prop:=fun Q H'=>∃ a o u,H' a = some (.frz o u) ∧ (∀ o' u',H0 a ≠ some (.frz o' u')) ∧ Mut (some u) ∧ Q (upd H' a u)
 t { nx:=fun σ' H'=>un (D.nx σ') H',rt:=fun v H'=>un (D.rt v) H',bk:=D.bk,ct:=D.ct } σ H
theorem j3g {st:Stmt} {t:TS} (h:PS X st t) : PS X st (j5t X.H₀ t):=by
 intro pins s σ H D I q
 refine thn (h pins s σ H _ I q) fun f s1 q1=>?_
 cases f with
 | next=>
  obtain ⟨σ1,H1,I1,a,o,u,ha,h0,hm,q⟩:=q1
  exact ⟨σ1,_,I1.j5y ha h0 hm,q⟩
 | ret v=>
  obtain ⟨x,σ1,H1,I1,r,a,o,u,ha,h0,hm,q⟩:=q1
  exact ⟨x,σ1,_,I1.j5y ha h0 hm,r,q⟩
 | brk=>exact q1
 | cont=>exact q1
def j5c (H0:Hp) (t:TE) : TE:=fun σ H Q=>t σ H fun v H'=>∃ a o u,H' a = some (.frz o u) ∧ (∀ o' u',H0 a ≠ some (.frz o' u')) ∧ Mut (some u) ∧ Q v (upd H' a u)
theorem jw2 {e:Expr} {t:TE} (h:PE X e t) : PE X e (j5c X.H₀ t):=by
 intro pins s σ H Q I q
 refine thn (h pins s σ H _ I q) fun v s1 ⟨x,H1,I1,r,a,o,u,ha,h0,hm,q⟩=>?_
 exact ⟨x,_,I1.j5y ha h0 hm,r,q⟩
end
theorem j2d {k:Key} {v:Value} (h:jus k v = true) : RelV (kV k) v:=by
 rcases xw h with ⟨i,t,rfl,rfl⟩ | ⟨x,t,rfl,rfl⟩
 ·exact ⟨t,rfl⟩
 ·exact ⟨t,rfl⟩
def Itd (a:Addr) (o:Obj) (kvs:List (Key × V)) : It where
 go:=fun i H=>i < kvs.length ∧ H a = some (.frz o (.dK kvs))
 yld:=fun i H x H'=>H' = H ∧ ∃ kv,kvs[i]? = some kv ∧ x = kV kv.1
 stop:=fun i H=>kvs.length ≤ i ∧ H a = some (.frz o (.dK kvs))
theorem j05 {kvs:List (Key × V)} {vs:List (Key × Value)} : ∀ {i:Nat} {kv:Key × V},KV kvs vs → kvs[i]? = some kv → ∃ v,vs[i]? = some (kv.1,v) ∧ RelV kv.2 v:=by
 intro i kv r
 unfold KV at r
 induction r generalizing i with
 | nil=>intro e; simp at e
 | @cons p q ps qs h t ih=>
  intro e
  cases i with
  | zero=>
   have e':=Option.some.inj e
   subst e'
   exact ⟨q.2,by rw [h.1]; rfl,h.2⟩
  | succ i=>exact ih e
theorem j2u {P:Program} {w:World} {K:PySem.W.Frag} {tg:Expr} (a it:Addr) (o:Obj) (kvs:List (Key × V)) (es:Array DictEntry) (ep:Nat) (hd:o.data = .dict es ep) : Turn P w K tg (Itd a o kvs) [it] it (fun i h=>h.IsKeyIter it a i kvs.length ep) where
  mem:=by simp
  obj:=fun i h st b hb=>by
    have e:b = it:=by simpa using hb
    subst e
    obtain ⟨o,e,c,d⟩:=st
    exact ⟨o,e,fun v z=>by rw [d] at z; cases z⟩
  keep:=fun i h h' st k=>st.at fun o e=>k it (by simp) o e
  item:=by
    intro X hP hw hK hc i pins s σ H E I hf st hg
    subst hP hw hK
    obtain ⟨hi,hq⟩:=hg
    obtain ⟨ho,hz,hs,vs,r,o',es',ep',ho',hx',hd',r1,r2,r3⟩:=I.hok a _ hq
    have eo:o' = o:=Option.some.inj (ho'.symm.trans ho)
    subst eo
    have ee:ep' = ep:=by
      rw [hd] at hd'
      cases hd'
      rfl
    subst ee
    have hlen:kvs.length = vs.length:=Paired.length r
    have hm:s.heap.DictAt (zf X.prog X.w) a vs ep':=⟨o',es',ho,hx',hd',r1,r2,r3⟩
    obtain ⟨kv,ekv⟩ : ∃ kv,kvs[i]? = some kv:=⟨kvs[i],by simp [hi]⟩
    obtain ⟨v,ev,rv⟩:=j05 r ekv
    obtain ⟨f0,f1,f2,f3,f4,f5⟩:=hf it (by simp)
    rw [hlen] at st
    refine wpAny_pyNext_dict_item st hm ev fun key h' hk st' sb=>?_
    have I1:Inv X pins σ H { s with heap:=h' }:=I.turned (t':=s.toks) (fun b o hb e=>(sb.2 b hb).trans e) f0 f1 f3 f4 f5
    rw [← hlen] at st'
    obtain ⟨oi,ei,ci,di⟩:=id st'
    exact ⟨key,rfl,jwf (s:={ s with heap:=h' }) ei ci di (by decide) ⟨kV kv.1,H,I1,j2d hk,⟨rfl,kv,ekv,rfl⟩,st',fun b hb=>(hf b hb).1⟩⟩
  done:=by
    intro X hP hw hK hc i pins s σ H E I hf st hg
    subst hP hw hK
    obtain ⟨hi,hq⟩:=hg
    obtain ⟨ho,hz,hs,vs,r,o',es',ep',ho',hx',hd',r1,r2,r3⟩:=I.hok a _ hq
    have eo:o' = o:=Option.some.inj (ho'.symm.trans ho)
    subst eo
    have ee:ep' = ep:=by
      rw [hd] at hd'
      cases hd'
      rfl
    subst ee
    have hlen:kvs.length = vs.length:=Paired.length r
    have hm:s.heap.DictAt (zf X.prog X.w) a vs ep':=⟨o',es',ho,hx',hd',r1,r2,r3⟩
    obtain ⟨f0,f1,f2,f3,f4,f5⟩:=hf it (by simp)
    rw [hlen] at st
    exact wpAny_pyNext_dict_end (I.ok.hd hc) st hm (List.getElem?_eq_none_iff.mpr (by omega)) fun h' eb=>⟨rfl,I.turned (t':=s.toks) (fun b o hb e=>eb b o hb e) f0 f1 f3 f4 f5⟩
  self:=fun _ _ _ _ _ st h=>wpAny_pyIter_keyiter st h
def iDk (tl:TE) : TI:=fun σ H R=>tl σ H fun x H1=>∃ a kvs,x = .ref a ∧ H1 a = some (.dK kvs) ∧ ∀ o,R (Itd a o kvs) (upd H1 a (.frz o (.dK kvs)))
theorem j5u {X:Cx} {tg l:Expr} {tl:TE} (hl:PE X l tl) : PI X tg l (iDk tl):=by
 intro pins s σ H R I h
 refine thn (hl pins s σ H _ I h) fun v s1 ⟨x,H1,I1,r1,q1⟩=>?_
 obtain ⟨a,kvs,e,hq,q⟩:=q1
 subst e
 cases r1
 obtain ⟨hz,hs,vs,r,o,es,ep,ho,hx,hd,r1,r2,r3⟩:=I1.hok a _ hq
 have hlen:kvs.length = vs.length:=Paired.length r
 have hm:s1.heap.DictAt (zf X.prog X.w) a vs ep:=⟨o,es,ho,hx,hd,r1,r2,r3⟩
 refine wpAny_pyIter_dict hs hm ?_
 have I2:=I1.freeze (show Mut (some (HO.dK kvs)) from True.intro) hq ho
 have hn:upd H1 a (.frz o (.dK kvs)) s1.heap.objs.size = none:=I2.hok.fresh (Nat.le_refl _)
 refine ⟨s1.heap.objs.size,[s1.heap.objs.size],_,_,_,rfl,I2.kept (t':=s1.toks) fun b o e=>Heap.get?_push_of_some _ e,j2u a _ o kvs es ep hd,?_,fun b hb=>?_,q o⟩
 ·rw [hlen]
  exact ⟨_,Heap.get?_push_size _ rfl,rfl,rfl⟩
 ·have e:b = s1.heap.objs.size:=by simpa using hb
  subst e
  exact I2.j3o (Nat.le_refl _) hn
end L2
namespace L2
open PySem PySem.Spec PyProof.Rows
def jqc (v d:Addr) : HO:=.ext fun h=>h.IsValuesView v d
def Itv (a:Addr) (o:Obj) (kvs:List (Key × V)) : It where
 go:=fun i H=>i < kvs.length ∧ H a = some (.frz o (.dK kvs))
 yld:=fun i H x H'=>H' = H ∧ ∃ kv,kvs[i]? = some kv ∧ x = kv.2
 stop:=fun i H=>kvs.length ≤ i ∧ H a = some (.frz o (.dK kvs))
section
variable {X:Cx}
theorem jx5:MtR X "dict.values" (fun x xs H Q=>∃ d kvs,x = .ref d ∧ xs = [] ∧ H d = some (.dK kvs) ∧ ∀ p,H p = none → Q (.ref p) (upd H p (jqc p d))):=by
 intro pins s σ H x xs v us Q I rx rs h
 obtain ⟨d,kvs,rfl,rfl,hq,q⟩:=h
 cases rx
 cases rs
 obtain ⟨hz,hs,vs,r,hd⟩:=I.hok d _ hq
 refine call_meetsIn PySem.F.slot_dict_values hd.typeIs PySem.F.entry_dict_values (PySem.F.args_dict_values_1 _) (meets_dict_values (zf X.prog X.w) d hs) ⟨⟨vs,hd⟩,?_⟩
 refine ⟨.ref s.heap.objs.size,_,I.laid (t':=s.toks) (o:=jqc s.heap.objs.size d) (fun b ob q=>Heap.get?_push_of_some _ q) (Nat.le_refl _) ?_,rfl,q _ I.fresh⟩
 refine ⟨⟨_,Heap.get?_push_size _ rfl,rfl,rfl⟩,⟨_,Heap.get?_push_size _ rfl⟩,fun h1 h2 p k=>?_⟩
 obtain ⟨o,e,c,d⟩:=p
 exact ⟨o,k o e,c,d⟩
end
theorem j3h {P:Program} {w:World} {K:PySem.W.Frag} {tg:Expr} (a it:Addr) (o:Obj) (kvs:List (Key × V)) (es:Array DictEntry) (ep:Nat) (hd:o.data = .dict es ep) : Turn P w K tg (Itv a o kvs) [it] it (fun i h=>h.IsValIter it a i kvs.length ep) where
  mem:=by simp
  obj:=fun i h st b hb=>by
    have e:b = it:=by simpa using hb
    subst e
    obtain ⟨o,e,c,d⟩:=st
    exact ⟨o,e,fun v z=>by rw [d] at z; cases z⟩
  keep:=fun i h h' st k=>st.at fun o e=>k it (by simp) o e
  item:=by
    intro X hP hw hK hc i pins s σ H E I hf st hg
    subst hP hw hK
    obtain ⟨hi,hq⟩:=hg
    obtain ⟨ho,hz,hs,vs,r,o',es',ep',ho',hx',hd',r1,r2,r3⟩:=I.hok a _ hq
    have eo:o' = o:=Option.some.inj (ho'.symm.trans ho)
    subst eo
    have ee:ep' = ep:=by
      rw [hd] at hd'
      cases hd'
      rfl
    subst ee
    have hlen:kvs.length = vs.length:=Paired.length r
    have hm:s.heap.DictAt (zf X.prog X.w) a vs ep':=⟨o',es',ho,hx',hd',r1,r2,r3⟩
    obtain ⟨kv,ekv⟩ : ∃ kv,kvs[i]? = some kv:=⟨kvs[i],by simp [hi]⟩
    obtain ⟨v,ev,rv⟩:=j05 r ekv
    obtain ⟨f0,f1,f2,f3,f4,f5⟩:=hf it (by simp)
    rw [hlen] at st
    refine wpAny_pyNext_values_item st hm ev fun h' st' sb=>?_
    have I1:Inv X pins σ H { s with heap:=h' }:=I.turned (t':=s.toks) (fun b o hb e=>(sb.2 b hb).trans e) f0 f1 f3 f4 f5
    rw [← hlen] at st'
    obtain ⟨oi,ei,ci,di⟩:=id st'
    exact ⟨v,rfl,jwf (s:={ s with heap:=h' }) ei ci di (by decide) ⟨kv.2,H,I1,rv,⟨rfl,kv,ekv,rfl⟩,st',fun b hb=>(hf b hb).1⟩⟩
  done:=by
    intro X hP hw hK hc i pins s σ H E I hf st hg
    subst hP hw hK
    obtain ⟨hi,hq⟩:=hg
    obtain ⟨ho,hz,hs,vs,r,o',es',ep',ho',hx',hd',r1,r2,r3⟩:=I.hok a _ hq
    have eo:o' = o:=Option.some.inj (ho'.symm.trans ho)
    subst eo
    have ee:ep' = ep:=by
      rw [hd] at hd'
      cases hd'
      rfl
    subst ee
    have hlen:kvs.length = vs.length:=Paired.length r
    have hm:s.heap.DictAt (zf X.prog X.w) a vs ep':=⟨o',es',ho,hx',hd',r1,r2,r3⟩
    obtain ⟨f0,f1,f2,f3,f4,f5⟩:=hf it (by simp)
    rw [hlen] at st
    exact wpAny_pyNext_values_end (I.ok.hd hc) st hm (List.getElem?_eq_none_iff.mpr (by omega)) fun h' eb=>⟨rfl,I.turned (t':=s.toks) (fun b o hb e=>eb b o hb e) f0 f1 f3 f4 f5⟩
  self:=fun _ _ _ _ _ st h=>wpAny_pyIter_valiter st h
def iVk (tl:TE) : TI:=fun σ H R=>tl σ H fun x H1=>∃ v a kvs,x = .ref v ∧ H1 v = some (jqc v a) ∧ H1 a = some (.dK kvs) ∧ ∀ o,R (Itv a o kvs) (upd H1 a (.frz o (.dK kvs)))
theorem j6v {X:Cx} {tg l:Expr} {tl:TE} (hl:PE X l tl) : PI X tg l (iVk tl):=by
 intro pins s σ H R I h
 refine thn (hl pins s σ H _ I h) fun v s1 ⟨x,H1,I1,r1,q1⟩=>?_
 obtain ⟨v,a,kvs,e,hv,hq,q⟩:=q1
 subst e
 cases r1
 obtain ⟨hz,hs,vs,r,o,es,ep,ho,hx,hd,r1,r2,r3⟩:=I1.hok a _ hq
 have hlen:kvs.length = vs.length:=Paired.length r
 have hm:s1.heap.DictAt (zf X.prog X.w) a vs ep:=⟨o,es,ho,hx,hd,r1,r2,r3⟩
 obtain ⟨hvv,_,_⟩:=(show we X.prog X.w H1 s1.heap v (jqc v a) from I1.hok v _ hv)
 refine wpAny_pyIter_values hvv hm ?_
 have I2:=I1.freeze (show Mut (some (HO.dK kvs)) from True.intro) hq ho
 have hn:upd H1 a (.frz o (.dK kvs)) s1.heap.objs.size = none:=I2.hok.fresh (Nat.le_refl _)
 refine ⟨s1.heap.objs.size,[s1.heap.objs.size],_,_,_,rfl,I2.kept (t':=s1.toks) fun b o e=>Heap.get?_push_of_some _ e,j3h a _ o kvs es ep hd,?_,fun b hb=>?_,q o⟩
 ·rw [hlen]
  exact ⟨_,Heap.get?_push_size _ rfl,rfl,rfl⟩
 ·have e:b = s1.heap.objs.size:=by simpa using hb
  subst e
  exact I2.j3o (Nat.le_refl _) hn
end L2
namespace SortT
open PySem PyProof.Rows PySem.W
def Wp (f:Nat → Nat → Bool) (n:Nat) {α : Type} : KasT α → (α → Prop) → Prop
 | .ret a,R=>R a
 | .ask i j k,R=>i < n ∧ j < n ∧ i ≠ j ∧ Wp f n (k (f i j)) R
theorem Wp.mono {f:Nat → Nat → Bool} {n:Nat} {α : Type} {R R' : α → Prop} (h : ∀ a,R a → R' a) : ∀ {t:KasT α},Wp f n t R → Wp f n t R'
 | .ret a,q=>h a q
 | .ask _ _ _,⟨a,b,c,q⟩=>⟨a,b,c,Wp.mono h q⟩
theorem Wp.bind {f:Nat → Nat → Bool} {n:Nat} {α β : Type} {g : α → KasT β} {R : β → Prop} : ∀ {t:KasT α},Wp f n t (fun a=>Wp f n (g a) R) → Wp f n (t.bind g) R
 | .ret _,q=>q
 | .ask _ _ _,⟨a,b,c,q⟩=>⟨a,b,c,Wp.bind q⟩
structure Tot (f:Nat → Nat → Bool) (n:Nat) : Prop where
 tot : ∀ i j,i < n → j < n → i ≠ j → f i j = false → f j i = true
 asy : ∀ i j,i < n → j < n → f i j = true → f j i = false
 tr : ∀ i j k,i < n → j < n → k < n → f i j = true → f j k = true → f i k = true
def P (n:Nat) (p:Array Nat) : Prop:=p.toList.Perm (List.range n)
section
variable {n:Nat} {p:Array Nat}
theorem P.size (h:P n p) : p.size = n:=by
 have:=h.length_eq
 rw [List.length_range] at this
 simpa using this
theorem getD_eq {k:Nat} (h:k < p.size) : p.getD k 0 = p[k]:=by simp [Array.getD,h]
theorem P.lt (h:P n p) {k:Nat} (hk:k < n) : p.getD k 0 < n:=by
 have hs:=h.size
 rw [getD_eq (by omega)]
 exact List.mem_range.mp (h.mem_iff.mp (by simp))
theorem P.inj (h:P n p) {a b:Nat} (ha:a < n) (hb:b < n) (e:p.getD a 0 = p.getD b 0) : a = b:=by
 have hs:=h.size
 rw [getD_eq (by omega),getD_eq (by omega)] at e
 have nd:p.toList.Nodup:=h.nodup_iff.mpr List.nodup_range
 exact (List.getElem_inj (h₀:=by simp; omega) (h₁:=by simp; omega) nd).mp (by simpa using e)
def Up (f:Nat → Nat → Bool) (p:Array Nat) (m:Nat) : Prop:=∀ a b,a < b → b < m → f (p.getD a 0) (p.getD b 0) = true
def Down (f:Nat → Nat → Bool) (p:Array Nat) (m:Nat) : Prop:=∀ a b,a < b → b < m → f (p.getD b 0) (p.getD a 0) = true
variable {f:Nat → Nat → Bool}
theorem Up.more (T:Tot f n) (hp:P n p) {m:Nat} (h1 : 1 ≤ m) (hm:m < n) (u:Up f p m) (h:f (p.getD (m - 1) 0) (p.getD m 0) = true) : Up f p (m + 1):=by
 intro a b ab bm
 by_cases e:b = m
 ·subst e
  by_cases e2:a = b - 1
  ·subst e2
   exact h
  ·exact T.tr _ _ _ (hp.lt (by omega)) (hp.lt (by omega)) (hp.lt hm) (u a (b - 1) (by omega) (by omega)) h
 ·exact u a b ab (by omega)
theorem Down.more (T:Tot f n) (hp:P n p) {m:Nat} (h1 : 1 ≤ m) (hm:m < n) (u:Down f p m) (h:f (p.getD m 0) (p.getD (m - 1) 0) = true) : Down f p (m + 1):=by
 intro a b ab bm
 by_cases e:b = m
 ·subst e
  by_cases e2:a = b - 1
  ·subst e2
   exact h
  ·exact T.tr _ _ _ (hp.lt hm) (hp.lt (by omega)) (hp.lt (by omega)) h (u a (b - 1) (by omega) (by omega))
 ·exact u a b ab (by omega)
theorem asc (T:Tot f n) (hp:P n p) : ∀ (c m:Nat),1 ≤ m → m + c ≤ n → Up f p m → Wp f n (kas_asc p c m) fun r=>m ≤ r ∧ r ≤ m + c ∧ Up f p r ∧ (r < m + c → f (p.getD r 0) (p.getD (r - 1) 0) = true)
 | 0,m,_,_,u=>⟨Nat.le_refl _,Nat.le_refl _,u,fun h=>absurd h (by omega)⟩
 | c + 1,m,h1,hm,u=>by
  refine ⟨hp.lt (by omega),hp.lt (by omega),fun e=>?_,?_⟩
  ·have:=hp.inj (by omega) (by omega) e
   omega
  cases h:f (p.getD m 0) (p.getD (m - 1) 0) with
  | true=>exact ⟨Nat.le_refl _,by omega,u,fun _=>h⟩
  | false=>
   have u':=u.more T hp h1 (by omega) (T.tot _ _ (hp.lt (by omega)) (hp.lt (by omega)) (fun e=>by have:=hp.inj (by omega) (by omega) e; omega) h)
   show Wp f n (kas_asc p c (m + 1)) _
   refine (asc T hp c (m + 1) (by omega) (by omega) u').mono fun r q=>?_
   exact ⟨by omega,by omega,q.2.2.1,fun z=>q.2.2.2 (by omega)⟩
theorem desc (T:Tot f n) (hp:P n p) : ∀ (c m:Nat),2 ≤ m → m + c ≤ n → Down f p m → Wp f n (kas_desc c p m 0) fun r=>r.1 = p ∧ r.2.2 = 0 ∧ m ≤ r.2.1 ∧ r.2.1 ≤ m + c ∧ Down f p r.2.1
 | 0,m,_,_,u=>⟨rfl,rfl,Nat.le_refl _,Nat.le_refl _,u⟩
 | c + 1,m,h1,hm,u=>by
  refine ⟨hp.lt (by omega),hp.lt (by omega),fun e=>?_,?_⟩
  ·have:=hp.inj (by omega) (by omega) e
   omega
  cases h:f (p.getD m 0) (p.getD (m - 1) 0) with
  | true=>
   show Wp f n (kas_desc c p (m + 1) 0) _
   refine (desc T hp c (m + 1) (by omega) (by omega) (u.more T hp (by omega) (by omega) h)).mono fun r q=>?_
   exact ⟨q.1,q.2.1,by omega,by omega,q.2.2.2.2⟩
  | false=>
   have h':=T.tot _ _ (hp.lt (by omega)) (hp.lt (by omega)) (fun e=>by have:=hp.inj (by omega) (by omega) e; omega) h
   refine ⟨hp.lt (by omega),hp.lt (by omega),fun e=>?_,?_⟩
   ·have:=hp.inj (by omega) (by omega) e
    omega
   rw [h']
   exact ⟨rfl,rfl,Nat.le_refl _,Nat.le_add_right _ _,u⟩
theorem jo0 {q:Array Nat} {a b:Nat} (e:q[a]? = p[b]?) : q.getD a 0 = p.getD b 0:=by
 rw [Array.getD_eq_getD_getElem?,Array.getD_eq_getD_getElem?,e]
theorem j00 (hp:P n p) {m:Nat} (hm:m ≤ n) (k:Nat) : (kas_rev p 0 m).getD k 0 = if k < m then p.getD (m - 1 - k) 0 else p.getD k 0:=by
 have h:=getElem?_mirror_all (xs:=p) (i:=0) (j:=m) (by rw [hp.size]; exact hm) k
 by_cases hk:k < m
 ·rw [if_pos hk]
  rw [if_pos ⟨Nat.zero_le _,hk⟩] at h
  refine jo0 (h.trans ?_)
  congr 1
  omega
 ·rw [if_neg hk]
  rw [if_neg (by omega)] at h
  exact jo0 h
theorem j4r (hp:P n p) (m:Nat) : P n (kas_rev p 0 m):=(Array.perm_iff_toList_perm.mp (mirror_perm p 0 m _)).trans hp
theorem j4n (hp:P n p) {m:Nat} (hm:m ≤ n) (d:Down f p m) : Up f (kas_rev p 0 m) m:=by
 intro a b ab bm
 rw [j00 hp hm,j00 hp hm,if_pos (by omega),if_pos bm]
 exact d _ _ (by omega) (by omega)
theorem tail3 (T:Tot f n) (hp:P n p) {m:Nat} (h1 : 1 ≤ m) (hm:m ≤ n) (d:Down f p m) : Wp f n (kas_tail3 m n p) fun r=>1 ≤ r.1 ∧ r.1 ≤ n ∧ P n r.2 ∧ Up f r.2 r.1:=by
 refine Wp.bind ((asc T (j4r hp m) (n - m) m h1 (by omega) (j4n hp hm d)).mono fun r q=>?_)
 exact ⟨by omega,by omega,j4r hp m,q.2.2.1⟩
theorem count (T:Tot f n) (hp:P n p) (h1 : 1 ≤ n) : Wp f n (kas_count n p) fun r=>1 ≤ r.1 ∧ r.1 ≤ n ∧ P n r.2 ∧ Up f r.2 r.1:=by
 refine Wp.bind ((asc T hp (n - 1) 1 (Nat.le_refl _) (by omega) (fun a b ab hb=>absurd hb (by omega))).mono fun m q=>?_)
 obtain ⟨q1,q2,q3,q4⟩:=q
 by_cases e:m = n
 ·rw [if_pos (by simp [e])]
  exact ⟨q1,by omega,hp,q3⟩
 ·rw [if_neg (by simp [e])]
  by_cases e2:m > 1
  ·rw [if_pos e2]
   refine ⟨hp.lt (by omega),hp.lt (by omega),fun z=>?_,?_⟩
   ·have:=hp.inj (by omega) (by omega) z
    omega
   rw [q3 0 (m - 1) (by omega) (by omega)]
   exact ⟨q1,by omega,hp,q3⟩
  ·rw [if_neg e2]
   have e3:m = 1:=by omega
   subst e3
   have h:=q4 (by omega)
   have d2:Down f p 2:=fun a b ab hb=>by
    have ea:a = 0:=by omega
    have eb:b = 1:=by omega
    subst ea eb
    exact h
   refine Wp.bind ((desc T hp (n - 2) 2 (Nat.le_refl _) (by omega) d2).mono fun r q=>?_)
   obtain ⟨r1,r2,r3,r4,r5⟩:=q
   rw [if_neg (by omega),r1]
   exact tail3 T hp (by omega) (by omega) r5
theorem place (T:Tot f n) (hp:P n p) {k:Nat} (hk:k < n) (u:Up f p k) : ∀ (c l r:Nat),l ≤ r → r ≤ k → r - l ≤ c → (∀ i,i < l → f (p.getD i 0) (p.getD k 0) = true) → (∀ i,r ≤ i → i < k → f (p.getD k 0) (p.getD i 0) = true) →
  Wp f n (kas_place p k c l r) fun q=>q ≤ k ∧ (∀ i,i < q → f (p.getD i 0) (p.getD k 0) = true) ∧ (∀ i,q ≤ i → i < k → f (p.getD k 0) (p.getD i 0) = true)
 | 0,l,r,h1,h2,h3,h4,h5=>⟨by omega,h4,fun i a b=>h5 i (by omega) b⟩
 | c + 1,l,r,h1,h2,h3,h4,h5=>by
  show Wp f n (if l ≥ r then .ret l else _) _
  by_cases e:l ≥ r
  ·rw [if_pos e]
   exact ⟨by omega,h4,fun i a b=>h5 i (by omega) b⟩
  ·rw [if_neg e]
   refine ⟨hp.lt hk,hp.lt (by omega),fun z=>?_,?_⟩
   ·have:=hp.inj hk (by omega) z
    omega
   cases h:f (p.getD k 0) (p.getD ((l + r) / 2) 0) with
   | true=>
    show Wp f n (kas_place p k c l ((l + r) / 2)) _
    refine place T hp hk u c l _ (by omega) (by omega) (by omega) h4 fun i a b=>?_
    by_cases ei:i = (l + r) / 2
    ·rw [ei]
     exact h
    ·exact T.tr _ _ _ (hp.lt hk) (hp.lt (by omega)) (hp.lt (by omega)) h (u _ _ (by omega) b)
   | false=>
    have h':=T.tot _ _ (hp.lt hk) (hp.lt (by omega)) (fun z=>by have:=hp.inj hk (by omega) z; omega) h
    show Wp f n (kas_place p k c ((l + r) / 2 + 1) r) _
    refine place T hp hk u c _ r (by omega) h2 (by omega) (fun i a=>?_) h5
    by_cases ei:i = (l + r) / 2
    ·rw [ei]
     exact h'
    ·exact T.tr _ _ _ (hp.lt (by omega)) (hp.lt (by omega)) (hp.lt hk) (u _ _ (by omega) (by omega)) h'
theorem js7 (hp:P n p) {k l:Nat} (hk:k < n) (hl:l ≤ k) (i:Nat) : (bubble p k (k - l)).getD i 0 = if i = l then p.getD k 0 else if l < i ∧ i ≤ k then p.getD (i - 1) 0 else p.getD i 0:=by
 have h:=getElem?_bubble (xs:=p) (src:=k) (by rw [hp.size]; exact hk) (k - l) (by omega) i
 rw [show k - (k - l) = l by omega] at h
 by_cases e:i = l
 ·rw [if_pos e] at h ⊢
  exact jo0 h
 ·rw [if_neg e] at h ⊢
  by_cases e2:l < i ∧ i ≤ k
  ·rw [if_pos e2] at h ⊢
   exact jo0 h
  ·rw [if_neg e2] at h ⊢
   exact jo0 h
theorem jyp (hp:P n p) {k l:Nat} (hk:k < n) (hl:l ≤ k) (u:Up f p k) (h1 : ∀ i,i < l → f (p.getD i 0) (p.getD k 0) = true) (h2 : ∀ i,l ≤ i → i < k → f (p.getD k 0) (p.getD i 0) = true) : Up f (bubble p k (k - l)) (k + 1):=by
 intro a b ab bm
 rw [js7 hp hk hl,js7 hp hk hl]
 by_cases ea:a = l
 ·rw [if_pos ea,if_neg (by omega),if_pos ⟨by omega,by omega⟩]
  exact h2 _ (by omega) (by omega)
 ·rw [if_neg ea]
  by_cases eb:b = l
  ·rw [if_neg (by omega),if_pos eb]
   exact h1 _ (by omega)
  ·rw [if_neg eb]
   by_cases e1:l < a ∧ a ≤ k
   ·rw [if_pos e1,if_pos ⟨by omega,by omega⟩]
    exact u _ _ (by omega) (by omega)
   ·rw [if_neg e1]
    by_cases e2:l < b ∧ b ≤ k
    ·rw [if_pos e2]
     exact u _ _ (by omega) (by omega)
    ·rw [if_neg e2]
     exact u _ _ ab (by omega)
theorem jzy (hp:P n p) (k d:Nat) : P n (bubble p k d):=(Array.perm_iff_toList_perm.mp (bubble_perm p k d)).trans hp
end
theorem bin {f:Nat → Nat → Bool} {n:Nat} (T:Tot f n) : ∀ (c:Nat) (p:Array Nat) (k:Nat),P n p → k + c ≤ n → Up f p k → Wp f n (kas_bin c p k) fun r=>P n r ∧ Up f r (k + c)
 | 0,p,k,hp,_,u=>⟨hp,u⟩
 | c + 1,p,k,hp,hk,u=>by
  refine Wp.bind ((place T hp (k:=k) (by omega) u k 0 k (Nat.zero_le _) (Nat.le_refl _) (by omega) (fun i h=>absurd h (by omega)) (fun i a b=>absurd b (by omega))).mono fun l q=>?_)
  refine (bin T c _ (k + 1) (jzy hp k _) (by omega) (jyp hp (by omega) q.1 u q.2.1 q.2.2)).mono fun r q=>?_
  rw [show k + 1 + c = k + (c + 1) by omega] at q
  exact q
theorem j27 (n:Nat) : P n (List.toArray (List.range n)):=by
 unfold P
 rw [List.toList_toArray]
theorem sort {f:Nat → Nat → Bool} {n:Nat} (T:Tot f n) (h1 : 1 ≤ n) : Wp f n (kas_sort n) fun r=>P n r ∧ Up f r n:=by
 refine Wp.bind ((count T (j27 n) h1).mono fun r q=>?_)
 obtain ⟨q1,q2,q3,q4⟩:=q
 by_cases e:r.1 < n
 ·rw [if_pos e]
  refine (bin T _ _ _ q3 (by omega) (by rw [show max r.1 1 = r.1 by omega]; exact q4)).mono fun z q=>?_
  rw [show max r.1 1 + (n - max r.1 1) = n by omega] at q
  exact q
 ·rw [if_neg e]
  exact ⟨q3,by rw [show n = r.1 by omega]; exact q4⟩
end SortT
namespace L2
open PySem PySem.Spec PyProof.Rows PySem.W
section
variable {prog:Program} {w:World} {A:Around} {E:Value → Shared → Prop} {s:Shared}
theorem jvo {Q:Bool → Shared → Prop} : ∀ {vs us:List Value} {ns ms:List Int} (i:Nat),IntsAre vs ns → IntsAre us ms → Q (HT.lexLt ns ms) s → KatLex prog w A true (decide (ns.length < ms.length)) Q (vs.zip us) i s
 | [],[],[],[],_,_,_,q=>kat_nil (by simpa [HT.lexLt] using q)
 | [],_ :: _,[],_ :: _,_,_,_,q=>kat_nil (by simpa [HT.lexLt] using q)
 | _ :: _,[],_ :: _,[],_,_,_,q=>kat_nil (by simpa [HT.lexLt] using q)
 | _ :: vs,_ :: us,n :: ns,m :: ms,i,.cons _ t hv,.cons _ t' hu,q=>by
  rw [HT.jid] at q
  refine kat_cons (wpAny_eqBool_int (kat_go (fun e=>?_) fun e=>?_))
  ·have e':n = m:=by simpa using e
   rw [if_pos e'] at q
   refine kat_yes ?_
   show KatLex prog w A true _ Q (vs.zip us) (i + 1) s
   have h:=jvo (i + 1) hv hu q
   rw [show decide ((n :: ns).length < (m :: ms).length) = decide (ns.length < ms.length) by simp]
   exact h
  ·have e' : ¬ n = m:=by simpa using e
   rw [if_neg e'] at q
   refine kat_no ?_
   cases i with
   | zero=>exact oneLt_int q
   | succ i=>exact kat_one _ _ (PyProof.Rows.lt_int q)
theorem j0b {a:Addr} {vs:List Value} {n:Nat} {R:PySem.Fin → Shared → Prop} {Good:Array Nat → Prop} (ho:s.heap.get? a = some (seqObj "list" vs.toArray n)) (h64:vs.length < 64)
  (ask : 2 ≤ vs.length → ∀ s':Shared,(∀ b o,b ≠ a → s.heap.get? b = some o → s'.heap.get? b = some o) →
   wpAny (model prog w) A (keyKind' vs.toArray) (fun κ s1=>s1 = s' ∧ (kas_sort vs.length).kasWp (kas_ask prog w A κ vs) (fun p s2=>s2 = s' ∧ Good p) s') (fun _ _=>False) s')
  (one:vs.length < 2 → R (.done (.ret .none)) { s with heap:=sortedHeap s.heap a vs vs.toArray })
  (more : ∀ p:Array Nat,p.size = vs.length → Good p → R (.done (.ret .none)) { s with heap:=sortedHeap s.heap a vs (List.toArray (p.toList.map fun i=>vs.getD i Value.none)) }) :
  wpAny (model prog w) A (Builtin.«list.sort» ⟨[.ref a],[]⟩) R E s:=by
 have big:(64:Nat) ≤ sizeLine:=by decide
 obtain ⟨e1,ho1⟩ : ∃ e1,(s.heap.update a (Obj.mapSeq fun _=>#[])).get? a = some (seqObj "list" #[] e1):=⟨_,get?_update_seq ho (fun _=>#[])⟩
 have la:a < (s.heap.update a (Obj.mapSeq fun _=>(#[] : Array Value))).objs.size:=Heap.lt_size ho1
 have ho6:=Heap.get?_push_of_some (seqObj "list" #[] 0) (Heap.get?_push_of_some (seqObj "tuple" vs.toArray 0) ho1)
 have old : ∀ b o,b ≠ a → s.heap.get? b = some o → (((s.heap.update a (Obj.mapSeq fun _=>#[])).push (seqObj "tuple" vs.toArray 0)).push (seqObj "list" #[] 0)).get? b = some o:=fun b o hb e=>
  Heap.get?_push_of_some _ (Heap.get?_push_of_some _ ((Heap.get?_update_ne _ _ _ _ hb).trans e))
 rw [list_sort_plain]
 refine wpAny_bind (listItems_at ho rfl (wpAny_bind (listUpdate_at ho rfl (wpAny_bind (seqEpoch_at ho1 rfl (wpAny_bind (wpAny_newTuple (wpAny_bind (wpAny_newList (wpAny_holding ?_) (Nat.zero_le _))) (by show vs.length ≤ _; omega))))) (by show vs.toArray.size ≤ _; simp; omega) (Nat.zero_le _))))
 by_cases h2:vs.length < 2
 ·have h2':vs.toArray.size < 2:=by simpa using h2
  have e:((vs.toArray.zip vs.toArray).map fun x:Value × Value=>x.2) = vs.toArray:=by
   apply Array.toList_inj.mp
   simp
   exact List.map_snd_zip (Nat.le_refl _)
  dsimp only
  rw [if_pos h2',if_pos h2']
  refine wpAny_bind (wpAny_pure ?_)
  rw [StateT.run_pure]
  refine wpAny_bind (wpAny_pure (wpAny_bind (seqEpoch_at ho6 rfl (wpAny_bind (listUpdate_at ho6 rfl ?_ (Nat.zero_le _) ?_)))))
  ·simp only [bne_self_eq_false,Bool.false_eq_true,if_false]
   have q:=one h2
   rw [← e] at q
   exact wpAny_pure q
  ·show ((vs.toArray.zip vs.toArray).map fun x:Value × Value=>x.2).size ≤ _
   rw [e]
   simp
   omega
 ·have h2' : ¬ vs.toArray.size < 2:=by simpa using h2
  dsimp only
  rw [if_neg h2',if_neg h2']
  refine wpAny_bind (wpAny_mono (ask (by omega) _ old) (fun κ s1 hk=>?_) fun _ _ z=>z.elim)
  obtain ⟨rfl,hk⟩:=hk
  refine wpAny_bind (wpAny_mono (kat_run (ks:=vs) (vs:=vs) (Q:=fun st' s2=>∃ p:Array Nat,p.size = vs.length ∧ arrOf st' = p.map (kas_item (vs.toArray.zip vs.toArray)) ∧ failedOf st' = none ∧ s2 = _ ∧ Good p) rfl (by omega) h64 (fun p st' s2 a1 a2 a3 a4=>⟨p,a1,a2,a3,a4⟩) hk) ?_ fun _ _ z=>z)
  rintro ⟨⟨⟩,st⟩ s2 ⟨p,hp,har,hf,rfl,good⟩
  have e:=kat_snds (ks:=vs) (vs:=vs) rfl har
  dsimp only
  rw [e]
  refine wpAny_bind (seqEpoch_at ho6 rfl (wpAny_bind (listUpdate_at ho6 rfl ?_ (Nat.zero_le _) ?_)))
  ·rw [hf]
   simp only [bne_self_eq_false,Bool.false_eq_true,if_false]
   exact wpAny_pure (more p hp good)
  ·rw [List.size_toArray,List.length_map,Array.length_toList,hp]
   omega
theorem jv2 {l:Addr} {vs:List Value} {Q:Value → Shared → Prop} {Good:Array Nat → Prop} (hl:s.heap.IsList l vs.toArray) (h64:vs.length < 64)
  (ask : 2 ≤ vs.length → ∀ s':Shared,(∀ b o,s.heap.get? b = some o → s'.heap.get? b = some o) →
   wpAny (model prog w) A.in1.in1 (keyKind' vs.toArray) (fun κ s1=>s1 = s' ∧ (kas_sort vs.length).kasWp (kas_ask prog w A.in1.in1 κ vs) (fun p s2=>s2 = s' ∧ Good p) s') (fun _ _=>False) s')
  (one:vs.length < 2 → Q (.ref (s.heap.objs.size + 1)) { s with heap:=sortedAll s.heap vs vs.toArray })
  (more : ∀ p:Array Nat,p.size = vs.length → Good p → Q (.ref (s.heap.objs.size + 1)) { s with heap:=sortedAll s.heap vs (List.toArray (p.toList.map fun i=>vs.getD i Value.none)) }) :
  wpAny (model prog w) A (call (.builtin "sorted") [.ref l]) Q E s:=by
 have big:(64:Nat) ≤ sizeLine:=by decide
 have sz:((s.heap.push (seqObj "list" #[] 0)).update s.heap.objs.size (Obj.mapSeq (· ++ vs.toArray))).objs.size = s.heap.objs.size + 1:=(Heap.size_update ..).trans (size_push' ..)
 have at1:(((s.heap.push (seqObj "list" #[] 0)).update s.heap.objs.size (Obj.mapSeq (· ++ vs.toArray))).push (seqObj "list" vs.toArray 0)).get? (s.heap.objs.size + 1) = some (seqObj "list" vs.toArray 0):=sz ▸ Heap.get?_push_size _ rfl
 have old : ∀ b o,s.heap.get? b = some o → (((s.heap.push (seqObj "list" #[] 0)).update s.heap.objs.size (Obj.mapSeq (· ++ vs.toArray))).push (seqObj "list" vs.toArray 0)).get? b = some o:=fun b o e=>
  Heap.get?_push_of_some _ ((Heap.get?_update_ne _ _ _ _ (Nat.ne_of_lt (Heap.lt_size e))).trans (Heap.get?_push_of_some _ e))
 have body:=j0b (prog:=prog) (w:=w) (A:=A.in1.in1) (E:=E) (a:=s.heap.objs.size + 1) (Good:=Good) (R:=fun f s'=>f = .done (.ret .none) ∧ Q (.ref (s.heap.objs.size + 1)) s')
  (s:={ s with heap:=((s.heap.push (seqObj "list" #[] 0)).update s.heap.objs.size (Obj.mapSeq (· ++ vs.toArray))).push (seqObj "list" vs.toArray 0) }) at1 h64
  (fun h2 s' k=>ask h2 s' fun b o e=>k b o (Nat.ne_of_lt (Nat.lt_succ_of_lt (Heap.lt_size e))) (old b o e)) (fun h=>⟨rfl,one h⟩) (fun p hp g=>⟨rfl,more p hp g⟩)
 refine Calls.call_function_entry kind_sorted plain_sorted entry_sorted (args_sorted1 _) ?_
 show wpAny (model prog w) A.in1 (do checkCount "sorted" 1 1 _; _) _ _ s
 refine wpAny_bind (m:=checkCount "sorted" 1 1 _) (wpAny_pure (wpAny_bind (collect_list hl (wpAny_bind (wpAny_newList ?_ (by omega))) (by omega))))
 show wpAny (model prog w) A.in1 _ _ E { s with heap:=((s.heap.push (seqObj "list" #[] 0)).update s.heap.objs.size (Obj.mapSeq (· ++ vs.toArray))).push (seqObj "list" vs.toArray 0) }
 rw [sz]
 exact wpAny_bind (wpAny_holding (wpAny_call_entry slot_list_sort ⟨_,at1,rfl⟩ entry_list_sort (wpAny_mono body (fun f s' z=>⟨_,z.1,wpAny_pure ⟨_,rfl,z.2⟩⟩) fun _ _ z=>z) (args_list_sort _)))
end
theorem jua : ∀ {a b:List Int},HT.lexLt a b = true → HT.lexLt b a = false
 | [],[],h=>by cases h
 | [],_ :: _,_=>rfl
 | _ :: _,[],h=>by cases h
 | x :: a,y :: b,h=>by
  rw [HT.jid] at h ⊢
  by_cases e:x = y
  ·rw [if_pos e] at h
   rw [if_pos e.symm]
   exact jua h
  ·rw [if_neg e] at h
   rw [if_neg (fun z=>e z.symm)]
   have:=of_decide_eq_true h
   exact decide_eq_false (by omega)
theorem jwz : ∀ {a b:List Int},a ≠ b → HT.lexLt a b = false → HT.lexLt b a = true
 | [],[],h,_=>absurd rfl h
 | [],_ :: _,_,h=>by cases h
 | _ :: _,[],_,_=>rfl
 | x :: a,y :: b,h,h'=>by
  rw [HT.jid] at h' ⊢
  by_cases e:x = y
  ·subst e
   rw [if_pos rfl] at h' ⊢
   exact jwz (fun z=>h (by rw [z])) h'
  ·rw [if_neg e] at h'
   rw [if_neg (fun z=>e z.symm)]
   have:=of_decide_eq_false h'
   exact decide_eq_true (by omega)
theorem j08 : ∀ {a b c:List Int},HT.lexLt a b = true → HT.lexLt b c = true → HT.lexLt a c = true
 | [],[],_,h,_=>by cases h
 | [],_ :: _,[],_,h=>by cases h
 | [],_ :: _,_ :: _,_,_=>rfl
 | _ :: _,[],_,h,_=>by cases h
 | _ :: _,_ :: _,[],_,h=>by cases h
 | x :: a,y :: b,z :: c,h,h'=>by
  rw [HT.jid] at h h' ⊢
  by_cases e:x = y
  ·subst e
   rw [if_pos rfl] at h
   by_cases e2:x = z
   ·rw [if_pos e2] at h' ⊢
    exact j08 h h'
   ·rw [if_neg e2] at h' ⊢
    exact h'
  ·rw [if_neg e] at h
   have h1:=of_decide_eq_true h
   by_cases e2:y = z
   ·subst e2
    rw [if_neg e]
    exact h
   ·rw [if_neg e2] at h'
    have h2:=of_decide_eq_true h'
    rw [if_neg (by omega)]
    exact decide_eq_true (by omega)
theorem wp_ask {f:Nat → Nat → Bool} {n:Nat} {s:Shared} {cmp:Nat → Nat → (Bool → Shared → Prop) → Shared → Prop} {α : Type} {R : α → Prop} (hc : ∀ i j C,i < n → j < n → C (f i j) s → cmp i j C s) :
  ∀ {t:KasT α},SortT.Wp f n t R → t.kasWp cmp (fun p s2=>s2 = s ∧ R p) s
 | .ret _,h=>⟨rfl,h⟩
 | .ask i j _,⟨a,b,_,h⟩=>hc i j _ a b (wp_ask hc h)
theorem range_getD {α : Type} (d : α) (l:List α) : (List.range l.length).map (fun i=>l.getD i d) = l:=by
 apply List.ext_getElem
 ·simp
 ·intro i h1 h2
  simp [h2]
section
variable {X:Cx} {pins:List (Addr × Obj)} {σ : St} {H:Hp} {s:Shared}
theorem jkz {α β : Type} {F : α → β → Prop} {d : α} {e : β} : ∀ {xs:List α} {ys:List β} {i:Nat},Paired F xs ys → i < xs.length → F (xs.getD i d) (ys.getD i e)
 | _,_,_,.nil,h=>absurd h (Nat.not_lt_zero _)
 | _,_,0,.cons h _,_=>h
 | _,_,i + 1,.cons _ r,h=>jkz (i:=i) r (by simpa using h)
theorem jjd {α β : Type} {F : α → β → Prop} {d : α} {e : β} {xs:List α} {ys:List β} (h:Paired F xs ys) : ∀ {l:List Nat},(∀ i ∈ l,i < xs.length) → Paired F (l.map fun i=>xs.getD i d) (l.map fun i=>ys.getD i e)
 | [],_=>.nil
 | i :: l,q=>.cons (jkz h (q i (by simp))) (jjd h fun j hj=>q j (by simp [hj]))
def jhh (K:PySem.W.Frag) (H:Hp) (vs:List V) (ts:List (List Int)) : Prop:=Paired (fun v t=>∃ a,v = .ref a ∧ SqT K H a (t.map V.int)) vs ts
theorem j7l : ∀ {h:Heap} {its:List Value} {ts:List (List Int)},Paired (fun u t=>∃ a xs,u = Value.ref a ∧ IsTup h a xs ∧ IntsAre xs.toList t) its ts → (∀ t ∈ ts,t ≠ []) → ∃ fs,KatTups h its fs ∧ fs.length = its.length ∧ ∀ v ∈ fs,∃ i k,v = Value.int i k
 | _,_,_,.nil,_=>⟨[],KatTups.nil,rfl,fun _ z=>by cases z⟩
 | h,_,t :: ts,.cons ⟨a,xs,e,⟨o,ho,hc,n,hd⟩,hi⟩ r,ne=>by
  subst e
  obtain ⟨fs,k,l,q⟩:=j7l r fun z hz=>ne z (by simp [hz])
  obtain ⟨x,hx⟩ : ∃ x r,xs.toList = x :: r:=by
   cases hxs:xs.toList with
   | nil=>
    rw [hxs] at hi
    cases hi
    exact absurd rfl (ne [] (by simp))
   | cons x r=>exact ⟨x,r,rfl⟩
  obtain ⟨rr,hx⟩:=hx
  have h0:xs[0]? = some x:=by rw [← Array.getElem?_toList,hx]; rfl
  rw [hx] at hi
  refine ⟨x :: fs,KatTups.cons ho hc hd h0 k,by simp [l],fun v hv=>?_⟩
  rcases List.mem_cons.mp hv with rfl | hv
  ·cases hi with
   | cons i k _=>exact ⟨i,k,rfl⟩
  ·exact q v hv
theorem jqw {α β γ : Type} {F : α → β → Prop} {G : α → γ → Prop} {L : β → γ → Prop} (h : ∀ v u t,F v u → G v t → L u t) : ∀ {vs:List α} {us:List β} {ts:List γ},Paired F vs us → Paired G vs ts → Paired L us ts
 | _,_,_,.nil,.nil=>.nil
 | _,_,_,.cons a r,.cons b q=>.cons (h _ _ _ a b) (jqw h r q)
theorem jy2 {ts:List (List Int)} (nd:ts.Nodup) : SortT.Tot (fun i j=>HT.lexLt (ts.getD i []) (ts.getD j [])) ts.length where
 tot:=fun i j hi hj ne h=>jwz (fun e=>ne (by
  rw [List.getD_eq_getElem?_getD,List.getD_eq_getElem?_getD,List.getElem?_eq_getElem hi,List.getElem?_eq_getElem hj] at e
  exact (List.getElem_inj nd).mp e)) h
 asy:=fun _ _ _ _ h=>jua h
 tr:=fun _ _ _ _ _ _ h1 h2=>j08 h1 h2
theorem jrg : ∀ {vs:List Value} {ns:List Int},IntsAre vs ns → vs.length = ns.length
 | _,_,.nil=>rfl
 | _,_,.cons _ _ r=>by rw [List.length_cons,List.length_cons,jrg r]
theorem jb8:jnm X (.builtin "sorted") (fun xs H Q=>∃ (p:Addr) (vs:List V) (ts:List (List Int)),xs = [.ref p] ∧ SqL X.K H p vs ∧ jhh X.K H vs ts ∧ vs.length < 64 ∧ ts.Nodup ∧ (∀ t ∈ ts,t ≠ []) ∧
  ∀ (q:Addr) (vs':List V) (ts':List (List Int)) (ix:List Nat),H q = none → ix.Perm (List.range vs.length) → vs' = ix.map (fun i=>vs.getD i .non) → ts' = ix.map (fun i=>ts.getD i []) → vs'.Perm vs → ts'.Perm ts → jhh X.K H vs' ts' → ts'.Pairwise (fun a b=>HT.lexLt a b = true) → Q (.ref q) (upd H q (.lst vs'))):=by
 intro pins s σ H xs us Q I r h
 obtain ⟨p,vs,ts,rfl,hq,ht,h64,nd,ne,q⟩:=h
 obtain ⟨u,rfl,rx⟩:=vals1 r
 cases rx
 obtain ⟨its,r',pl,hz⟩:=I.list hq
 have l1:vs.length = its.length:=r'.length
 have l2:vs.length = ts.length:=Paired.length ht
 have hn:H (s.heap.objs.size + 1) = none:=I.hok.fresh (Nat.le_succ _)
 have end_ : ∀ (out:List Value) (vs':List V) (ts':List (List Int)) (ix:List Nat),ix.Perm (List.range vs.length) → vs' = ix.map (fun i=>vs.getD i .non) → ts' = ix.map (fun i=>ts.getD i []) → Vals vs' out → vs'.Perm vs → ts'.Perm ts → jhh X.K H vs' ts' → ts'.Pairwise (fun a b=>HT.lexLt a b = true) →
   EP X pins σ Q (.ref (s.heap.objs.size + 1)) { s with heap:=sortedAll s.heap its out.toArray }:=fun out vs' ts' ix b1 b2 b3 a1 a2 a3 a4 a5=>by
  obtain ⟨e,he⟩:=sortedAll_at s.heap its out.toArray
  refine ⟨.ref (s.heap.objs.size + 1),_,I.laid (a:=s.heap.objs.size + 1) (o:=.lst vs') (t':=s.toks) (fun b o z=>sortedAll_old z) (Nat.le_succ _) ⟨?_,out,e,a1,he⟩,rfl,q _ vs' ts' ix hn b1 b2 b3 a2 a3 a4 a5⟩
  rw [a2.length_eq]
  exact hz
 have tt:Paired (fun u t=>∃ a xs,u = Value.ref a ∧ IsTup s.heap a xs ∧ IntsAre xs.toList t) its ts:=jqw (fun v u t hv hu=>by
  obtain ⟨a,rfl,ha⟩:=hu
  cases hv
  obtain ⟨ys,ry,hy,_⟩:=I.tuple ha
  exact ⟨a,ys.toArray,rfl,hy,intsAre_of ry⟩) r' ht
 refine jv2 pl.isList (by omega) (Good:=fun p=>SortT.P its.length p ∧ SortT.Up (fun i j=>HT.lexLt (ts.getD i []) (ts.getD j [])) p its.length) (fun h2 s' k=>?_) (fun h=>?_) (fun p hp g=>?_)
 ·have tt':Paired (fun u t=>∃ a xs,u = Value.ref a ∧ IsTup s'.heap a xs ∧ IntsAre xs.toList t) its ts:=Paired.pz tt fun u t ⟨a,xs,e,⟨o,ho,hr⟩,hi⟩=>⟨a,xs,e,⟨o,k a o ho,hr⟩,hi⟩
  obtain ⟨fs,kt,lf,hf⟩:=j7l tt' ne
  refine kat_kind (T:=Value.type "int") kt (by omega) (fun v hv=>?_) rfl ⟨rfl,?_⟩
  ·obtain ⟨i,t,rfl⟩:=hf v hv
   exact .now
  have hs:=SortT.sort (jy2 nd) (by omega)
  rw [← l2,l1] at hs
  refine wp_ask (fun i j C hi hj c=>?_) hs
  obtain ⟨a,xs,ea,⟨o,ho,hc,n,hd⟩,ia⟩:=jkz (d:=Value.none) (e:=[]) tt' hi
  obtain ⟨b,ys,eb,⟨o',ho',hc',n',hd'⟩,ib⟩:=jkz (d:=Value.none) (e:=[]) tt' hj
  unfold kas_ask
  rw [ea,eb]
  have q:=jvo (prog:=X.prog) (w:=X.w) (A:=X.A.in1.in1) 0 ia ib c
  rw [← jrg ia,← jrg ib] at q
  refine kat_lt ho hd ho' hd' ?_
  rw [show (Value.type "int" != Value.type "tuple") = true from rfl]
  simpa using q
 ·refine end_ its vs ts (List.range vs.length) (List.Perm.refl _) (range_getD ..).symm (by rw [l2]; exact (range_getD ..).symm) r' (List.Perm.refl _) (List.Perm.refl _) ht ?_
  match ts,l2 with
  | [],_=>exact .nil
  | [_],_=>exact List.pairwise_singleton _ _
  | _ :: _ :: _,e=>exact absurd e (by simp; omega)
 ·obtain ⟨g1,g2⟩:=g
  have hm : ∀ i ∈ p.toList,i < vs.length:=fun i hi=>by
   rw [l1]
   exact List.mem_range.mp (g1.mem_iff.mp hi)
  refine end_ _ (p.toList.map fun i=>vs.getD i .non) (p.toList.map fun i=>ts.getD i []) p.toList (by rw [l1]; exact g1) rfl rfl (jjd r' hm) ?_ ?_ (jjd ht hm) ?_
  ·refine (g1.map _).trans ?_
   rw [← l1,range_getD]
  ·refine (g1.map _).trans ?_
   rw [← l1,l2,range_getD]
  ·rw [List.pairwise_map,List.pairwise_iff_getElem]
   intro i j hi hj ij
   have hj':j < its.length:=by rw [Array.length_toList,hp] at hj; exact hj
   have:=g2 i j ij hj'
   rw [SortT.getD_eq (by rw [hp]; omega),SortT.getD_eq (by rw [hp]; omega)] at this
   simpa using this
theorem jsf:jnm X (.builtin "sorted") (fun xs H Q=>∃ (p:Addr) (vs:List V) (ts:List (List Int)),xs = [.ref p] ∧ SqL X.K H p vs ∧ jhh X.K H vs ts ∧ vs.length < 64 ∧ ts.Nodup ∧ (∀ t ∈ ts,t ≠ []) ∧
  ∀ (q:Addr) (vs':List V) (ts':List (List Int)),H q = none → vs'.Perm vs → ts'.Perm ts → jhh X.K H vs' ts' → ts'.Pairwise (fun a b=>HT.lexLt a b = true) → Q (.ref q) (upd H q (.lst vs'))):=by
 intro pins s σ H xs us Q I r h
 obtain ⟨p,vs,ts,e,h1,h2,h3,h4,h5,q⟩:=h
 exact jb8 pins s σ H xs us Q I r ⟨p,vs,ts,e,h1,h2,h3,h4,h5,fun q' vs' ts' ix a _ _ _ b c d f=>q q' vs' ts' a b c d f⟩
end
end L2
namespace L2
open PySem PySem.Spec PyProof.Rows
def jza (K:PySem.W.Frag) (H:Hp) (x:V) (ns:List Int) : Prop:=∃ a,x = .ref a ∧ SqT K H a (ns.map V.int)
noncomputable def isT (K:PySem.W.Frag) (H:Hp) (n:List Int) (u:Value) : Bool:=@decide (∃ a,u = .ref a ∧ SqT K H a (n.map V.int)) (Classical.propDecidable _)
theorem juj {ns ms:List Int} (h:ns.map V.int = ms.map V.int) : ns = ms:=by
 induction ns generalizing ms with
 | nil=>cases ms with
  | nil=>rfl
  | cons _ _=>cases h
 | cons n ns ih=>cases ms with
  | nil=>cases h
  | cons m ms=>
   rw [List.map_cons,List.map_cons] at h
   injection h with h1 h2
   injection h1 with h1
   rw [h1,ih h2]
section
variable {X:Cx} {pins:List (Addr × Obj)} {σ : St} {H:Hp} {s:Shared}
theorem jya (I:Inv X pins σ H s) {x:V} {u:Value} {ns n:List Int} (h:jza X.K H x ns) (r:RelV x u) : isT X.K H n u = decide (ns = n):=by
 obtain ⟨a,rfl,ha⟩:=h
 cases r
 unfold isT
 by_cases e:ns = n
 ·subst e
  rw [decide_eq_true rfl]
  exact @decide_eq_true _ (Classical.propDecidable _) ⟨a,rfl,ha⟩
 ·rw [decide_eq_false e]
  refine @decide_eq_false _ (Classical.propDecidable _) fun ⟨b,z,hb⟩=>?_
  cases z
  exact e (juj (I.jpa ha hb))
theorem jk2 (I:Inv X pins σ H s) {A:Around} (hu:A.units + 60 < cLine) {x:V} {v:Value} {n:List Int} (hx:jza X.K H x n) (rx:RelV x v) : ∀ {xs:List V} {us:List Value} {nss:List (List Int)},Vals xs us → Paired (jza X.K H) xs nss → ∀ u ∈ us,SeqAt.EqAt A s u v (isT X.K H n u)
 | _,_,_,.nil,_=>fun u hu=>by cases hu
 | y :: xs,w :: us,m :: nss,.cons r t,.cons h hs=>fun u hm=>by
  rcases List.mem_cons.mp hm with rfl | hm
  ·rw [jya I h r]
   obtain ⟨a,rfl,ha⟩:=h
   obtain ⟨b,rfl,hb⟩:=hx
   have q:=jtj I 60 (.tup (m.map Dt.int)) (.tup (n.map Dt.int)) (.ref a) (.ref b) u v A (jzo _) hu (jsl ha) (jsl hb) r rx
   rw [j0g] at q
   exact q
  ·exact jk2 I hu hx rx t hs u hm
theorem jr4 (I:Inv X pins σ H s) {n:List Int} : ∀ {xs:List V} {us:List Value} {nss:List (List Int)},Vals xs us → Paired (jza X.K H) xs nss → us.any (isT X.K H n) = decide (n ∈ nss)
 | _,_,_,.nil,.nil=>by simp
 | y :: xs,w :: us,m :: nss,.cons r t,.cons h hs=>by
  rw [List.any_cons,jya I h r,jr4 I t hs]
  by_cases e:m = n
  ·subst e; simp
  ·have e' : ¬ n = m:=fun z=>e z.symm
   simp [e,e']
def j63 (K:PySem.W.Frag) (neg:Bool) : R2:=fun x y H Q=>∃ p xs n nss,y = .ref p ∧ SqL K H p xs ∧ jza K H x n ∧ Paired (jza K H) xs nss ∧ Q (.bl (if neg then !decide (n ∈ nss) else decide (n ∈ nss))) H
end
section
variable {X:Cx}
theorem j5e (hu:X.A.units + 64 < cLine) : OpR X (compareOp .In) (j63 X.K false):=by
 intro pins s σ H x y v u Q I rx ry h
 obtain ⟨p,xs,n,nss,rfl,hq,hx,hs,q⟩:=h
 cases ry
 obtain ⟨its,r,pl,hz⟩:=I.list hq
 refine SeqAt.in_listAt (isT X.K H n) pl.isList (fun w hw=>jk2 I ?_ hx rx r hs w (by simpa using hw)) ⟨.bl _,H,I,rfl,?_⟩
 ·first | (have e:X.A.in1.units = X.A.units + 1:=rfl; omega) | (have e:X.A.in1.units = X.A.units:=rfl; omega) | (have e:=Around.units_in1 X.A; omega)
 ·rw [show its.toArray.any (isT X.K H n) = its.any (isT X.K H n) by simp,jr4 I r hs]
  exact q
theorem jse (hu:X.A.units + 64 < cLine) : OpR X (compareOp .NotIn) (j63 X.K true):=by
 intro pins s σ H x y v u Q I rx ry h
 obtain ⟨p,xs,n,nss,rfl,hq,hx,hs,q⟩:=h
 cases ry
 obtain ⟨its,r,pl,hz⟩:=I.list hq
 refine SeqAt.notIn_listAt (isT X.K H n) pl.isList (fun w hw=>jk2 I ?_ hx rx r hs w (by simpa using hw)) ⟨.bl _,H,I,rfl,?_⟩
 ·first | (have e:X.A.in1.units = X.A.units + 1:=rfl; omega) | (have e:X.A.in1.units = X.A.units:=rfl; omega) | (have e:=Around.units_in1 X.A; omega)
 ·rw [show its.toArray.any (isT X.K H n) = its.any (isT X.K H n) by simp,jr4 I r hs]
  exact q
end
end L2
namespace L2
open PySem PySem.Spec PyProof.Rows
section
variable {X:Cx} {pins:List (Addr × Obj)} {σ : St} {H H':Hp} {s s':Shared} {ea:Addr} {cls:Value}
end
section
variable {X:Cx} {scope:Scope} {N':List Str} {ix:List (Option Nat)} {C:Addr} {fp:List Addr} {s₂:Shared} {H₂:Hp} {pins:List (Addr × Obj)} {σ : St}
theorem jwd (I:Inv X pins σ H₂ s₂) (hf : ∀ b ∈ fp,jt0 X pins H₂ b) {ps:List (Addr × Obj)} {σ':St} {H':Hp} {s':Shared} (I':Inv (blk X scope N' C fp s₂ H₂) ps σ' H' s') : Inv X pins σ H' s':=
 I.j25 (ch:=fp) I'.os I'.base I'.hok I'.bare fun b hb=>by
  obtain ⟨_,f1,_,f3,f4,f5⟩:=hf b hb
  exact ⟨f3,f1,f4,f5⟩
end
section
variable {prog:Program} {w:World} {A:Around} {R:Result → Shared → Prop} {s:Shared}
end
section
variable {X:Cx} {scope:Scope} {N':List Str} {ix:List (Option Nat)}
variable {tg iter elt:Expr} {ifs:List Expr} {pos:Pos} {wi:TI} {g:TG} {ti:TT} {te:TE} {W:Value → Hp → Prop}
end
end L2
namespace L2
open PySem PySem.Spec PyProof.Rows
section
variable {X:Cx} {pins:List (Addr × Obj)} {σ : St} {H:Hp} {s:Shared} {a:Addr} {y v:V} {u r:Value} {A:Around} {E:Value → Shared → Prop}
theorem jy1 {H':Hp} {Q:Unit → Shared → Prop} (hu:A.units < cLine) (I:Inv X pins σ H s) (g:jwx H a y v H') (ry:RelV y u) (rv:RelV v r) (h : ∀ s',Inv X pins σ H' s' → Q () s') : wpAny (model X.prog X.w) A (dictSet a u r) Q E s:=by
 rcases g with ⟨kvs,k,e,ey,l,eH⟩ | ⟨kvs,k,b,e,ey,eb,l,eH⟩
 ·subst ey eH
  obtain ⟨z,hd,vs,rel,dd⟩:=j45 I.hok e
  have hz:vs.length ≤ sizeLine:=by rw [← rel.length]; exact z
  have hl:(putK kvs k v).length ≤ sizeLine:=by have:=jcj kvs k v; omega
  refine wpAny_dictSet_pairs (hsz:=hz) (jt8 ry) dd fun h' dd' hs=>h _ ?_
  have he : ∃ q,h'.get? a = some q:=let ⟨q,_,_,hq,_⟩:=dd'; ⟨q,hq⟩
  exact jop I (by rw [e]; exact True.intro) hs he (j1l hl hd (rel.put k rv) dd')
 ·subst ey eH
  cases (show u = Value.ref b from ry)
  obtain ⟨z,hd,xs,rel,dd⟩:=j2r I.hok e
  have hz:xs.length ≤ sizeLine:=by rw [← Paired.length rel]; exact z
  have hl:(putK kvs k v).length ≤ sizeLine:=by have:=jcj kvs k v; omega
  refine wpAny_dictSet_heap (hsz:=hz) (knd:=tupleKind (zf X.prog X.w)) hu (jm5 I.hok eb) dd fun h' dd' hs=>h _ ?_
  obtain ⟨q,es,ep,hq,h2,h3,h4,_,h5⟩:=dd'
  refine jop I (by rw [e]; exact True.intro) hs ⟨q,hq⟩ ⟨hl,hd,_,(rel.put k eb rv).keeps fun c ys ec=>?_,q,es,ep,hq,h2,h3,h4,h5⟩
  rw [je (jlw ec e (fun z=>nomatch z))]
  exact ec
end
section
variable {prog:Program} {w:World} {A:Around} {R:Result → Shared → Prop} {s:Shared}
theorem jv1 {kx vx target iter:Expr} {ifs:List Expr} {scope:Scope} {pos:Pos} {it:Value} {D:Addr} {env:Env} (I:Nat → Shared → Prop)
  (turn : ∀ n s,I n s → wpAny (model prog w) A (pyNext it) (fun r s₁=>match r with
   | none=>R (.ok .next) s₁
   | some v=>wpAny (model prog w) A (letOwnedTupleGo target it v) (fun _ s₁=>wpAny (model prog w) A (assign target env v) (fun _ s₂=>wpAny (model prog w) A (forIn ifs true fun c r=>if r = true then do let ok ← isTrue c env (eval c env); pure (ForInStep.yield ok) else pure (ForInStep.yield r)) (fun ok s₃=>
      if ok = true then wpAny (model prog w) A (eval kx env) (fun kv s₄=>wpAny (model prog w) A (eval vx env) (fun vv s₅=>wpAny (model prog w) A (dictSet D kv vv) (fun _ s₆=>∃ m,m < n ∧ I m s₆) NoE s₅) NoE s₄) NoE s₃
      else ∃ m,m < n ∧ I m s₃) NoE s₂) NoE s₁) NoE s₁) NoE s)
  (n:Nat) (h:I n s) : codeAny (model prog w) A (.compLoop (.DictComp kx vx [⟨target,iter,ifs,0⟩] scope pos) 0 it (.ref D) env) R s:=by
 refine codeAny_loop rfl I (fun n s hI=>?_) n h
 have no : ∀ {α : Type} {t:Sem α} {Q : α → Shared → Prop} {E:Value → Shared → Prop} {s:Shared},wpAny (model prog w) A t Q NoE s → wpAny (model prog w) A t Q E s:=fun h=>wpAny_mono h (fun _ _ q=>q) fun _ _ z=>z.elim
 show wpAny _ A ((compTurn (.DictComp kx vx [⟨target,iter,ifs,0⟩] scope pos) 0 it (.ref D) env).onRaise (fun x=>do noteFrame x env; theTreesLotGoes x)) _ _ s
 rw [compTurn_dict]
 refine wpAny_noted (wpAny_bind (wpAny_standAt (wpAny_bind (no (thn (turn n s hI) fun r s₁ h₁=>?_)))))
 cases r with
 | none=>exact wpAny_pure h₁
 | some v=>
  refine wpAny_bind (no (thn h₁ fun _ s₁ h₁=>wpAny_bind (no (thn h₁ fun _ s₂ h₂=>wpAny_bind (no (thn h₂ fun ok s₃ h₃=>?_))))))
  cases ok with
  | false=>exact wpAny_pure ⟨rfl,h₃⟩
  | true=>
   refine wpAny_bind (wpAny_bind (no (thn h₃ fun kv s₄ h₄=>wpAny_bind (wpAny_holding (no (thn h₄ fun vv s₅ h₅=>?_))))))
   exact wpAny_bind (wpAny_standAt (wpAny_holding (no (thn h₅ fun _ s₆ h₆=>wpAny_pure ⟨rfl,h₆⟩))))
end
section
variable {X:Cx} {scope:Scope} {N':List Str} {ix:List (Option Nat)} {C:Addr} {fp:List Addr} {s₂:Shared} {H₂:Hp} {pins:List (Addr × Obj)} {σ : St}
theorem jwr (I:Inv X pins σ H₂ s₂) (co:ji1 X.N X.env.scope scope N' ix) {h₁:Heap} {t':Nat} (hC : @Eq Nat C s₂.heap.objs.size) (hf : ∀ b ∈ fp,jt0 X pins H₂ b) (hlt : ∀ b ∈ fp,b < s₂.heap.objs.size)
  (old : ∀ b o,s₂.heap.get? b = some o → h₁.get? b = some o) {m:Str → Option Value} (hns:h₁.Ns C m) :
  Inv (blk X scope N' C fp s₂ H₂) [] (jns ix σ) H₂ { s₂ with heap:=h₁,toks:=t' } where
 ok:=j04 I co (by omega) hf hlt
 os:=rfl
 bare:=I.bare
 base:=Un.kept old
 loc := by
  refine ⟨m,hns,fun i x v e1 e2 e3=>?_⟩
  unfold jns at e2
  rw [List.getElem?_map] at e2
  cases q:ix[i]? with
  | none=>rw [q] at e2; cases e2
  | some o=>
   rw [q] at e2
   cases o with
   | none=>cases e2
   | some k=>
    have e2':(σ[k]?).join = some v:=Option.some.inj e2
    have e2'' : σ[k]? = some (some v):=by
     cases z : σ[k]? with
     | none=>rw [z] at e2'; cases e2'
     | some o=>rw [z] at e2'; exact congrArg some e2'
    obtain ⟨o1,o2,o3⟩:=co.out i x k e1 q
    have hk:X.env.kindOf x = some .cell ∨ X.env.kindOf x = some .free:=co.frees _ o2 rfl
    obtain ⟨m0,_,hl⟩:=I.loc
    obtain ⟨u,r,l⟩:=hl k x v o1 e2'' (.inr hk)
    refine ⟨u,r,?_⟩
    rcases l with ⟨l,_⟩ | ⟨_,c,ec,hcell⟩
    ·rcases hk with z | z
     ·rw [z] at l; cases l
     ·rw [z] at l; cases l
    ·refine .inr ⟨?_,c,jrf o2 ec,?_⟩
     ·rcases e3 with z | z | z
      ·obtain ⟨k',hm,q⟩:=gk z
       rcases q with q | ⟨_,q⟩
       ·have:=o3 _ hm rfl
        rw [show k' = NameKind.local from q] at this
        cases this
       ·cases q
      ·exact .inl z
      ·exact .inr z
     ·obtain ⟨o,ho,hd⟩:=hcell
      exact ⟨o,old _ _ ho,hd⟩
 cell:=fun x c e=>by
  obtain ⟨v,o,ho,hd⟩:=I.cell x c (jaf e)
  exact ⟨v,o,old _ _ ho,hd⟩
 free:=I.hok.fresh (by show @LE.le Nat _ s₂.heap.objs.size C; omega)
 jfe:=fun x c e=>I.jfe x c (jaf e)
 pin:=fun p hp=>by
  have hp':p ∈ ([] : List (Addr × Obj)):=by simpa [blk] using hp
  cases hp'
 hok:=I.hok.kept old
 len:=by unfold jns; rw [List.length_map]; exact co.len
end
def DcW (J:It) (g:TG) (ti:TT) (tk tv:TE) (D:Addr) (QF:Hp → Prop) (W:Nat → Nat → St → Hp → Prop) : Prop:=∀ i m σ H,W i m σ H → (J.stop i H ∧ QF H) ∨
 (J.go i H ∧ ∃ N:St → Hp → Prop,(∀ σ' H',N σ' H' → ∃ m',m' < m ∧ W (i + 1) m' σ' H') ∧
  ∀ x H',J.yld i H x H' → g x σ H' fun σ2 H2=>ti σ2 H2 fun b H3=>if b = true then tk σ2 H3 fun y H4=>tv σ2 H4 fun z H5=>∃ H6,jwx H5 D y z H6 ∧ N σ2 H6 else N σ2 H3)
def tDc (new:HO) (ix:List (Option Nat)) (wi:TI) (g:TG) (ti:TT) (tk tv:TE) : TE:=fun σ H Q=>wi σ H fun J H1=>∀ D,H1 D = none → ∃ W:Nat → Nat → St → Hp → Prop,(∃ m,W 0 m (jns ix σ) (upd H1 D new)) ∧ DcW J g ti tk tv D (fun H=>Q (.ref D) H) W
section
variable {X:Cx}
theorem jzw {scope:Scope} {N':List Str} {ix:List (Option Nat)} {pins:List (Addr × Obj)} {σ : St} {tg iter kx vx:Expr} {ifs:List Expr} {pos:Pos} {g:TG} {ti:TT} {tk tv:TE} {E:Value → Shared → Prop} {D:Addr}
  (co:ji1 X.N X.env.scope scope N' ix) (hc:X.calm = true) (hu:X.A.units < cLine)
  (hg : ∀ C fp s₂ H₂,PG (blk X scope N' C fp s₂ H₂) tg g) (hi : ∀ C fp s₂ H₂,PIf (blk X scope N' C fp s₂ H₂) ifs ti) (hk : ∀ C fp s₂ H₂,PE (blk X scope N' C fp s₂ H₂) kx tk) (hv : ∀ C fp s₂ H₂,PE (blk X scope N' C fp s₂ H₂) vx tv)
  {H₂:Hp} {s₂:Shared} {J:It} {fp:List Addr} {it:Addr} {tn:Nat → Heap → Prop} {QF:Hp → Prop} {W:Nat → Nat → St → Hp → Prop}
  (I:Inv X pins σ H₂ s₂) (T:Turn X.prog X.w X.K tg J fp it tn) (st:tn 0 s₂.heap) (hf : ∀ b ∈ fp,jt0 X pins H₂ b) (w0 : ∃ m,W 0 m (jns ix σ) H₂) (hW:DcW J g ti tk tv D QF W)
  {RR:Addr → Result → Shared → Prop} (hRR : ∀ C H' s',Inv X pins σ H' s' → QF H' → j12 X pins H' s' C → RR C (.ok .next) s') :
  wpAny (model X.prog X.w) X.A (newFunctionEnv scope X.env.globals (jwa scope X.env) [] X.env.qual none .none (some X.env)) (fun cenv s₄=>
   codeAny (model X.prog X.w) X.A (.compStart (.DictComp kx vx [⟨tg,iter,ifs,0⟩] scope pos) 0 (.ref it) (.ref D) { cenv with scope:=relabel scope X.env }) (RR cenv.locals) s₄) E s₂:=by
 have hlt : ∀ b ∈ fp,@LT.lt Nat _ b s₂.heap.objs.size:=fun b hb=>by
  obtain ⟨o,e,_⟩:=T.obj _ _ st b hb
  exact Heap.lt_size e
 refine wpAny_newFunctionEnv co.jxq (by intro y hy; simp at hy) (fun h₁ hns₁ hsb₁=>?_) co.kind
 have below : ∀ b:Nat,b < s₂.heap.objs.size → ¬ @Eq Nat b s₂.heap.objs.size:=fun b hb=>by omega
 have old : ∀ b o,s₂.heap.get? b = some o → h₁.get? b = some o:=fun b o e=>hsb₁.extBut b o (below b (Heap.lt_size e)) (Heap.get?_push_of_some _ e)
 have st₁:tn 0 h₁:=T.keep _ _ _ st fun b _ o e=>old b o e
 generalize hCe:s₂.heap.objs.size = C at hns₁ hsb₁ below ⊢
 have loop : ∀ s₃:Shared,s₃ = { s₂ with heap:=h₁,toks:=s₂.toks + ([] : List (Str × Value)).length } →
   codeAny (model X.prog X.w) X.A (.compLoop (.DictComp kx vx [⟨tg,iter,ifs,0⟩] scope pos) 0 (.ref it) (.ref D) (compEnvC scope (jwa scope X.env) C X.env)) (RR C) s₃:=by
  rintro s₃ rfl
  obtain ⟨m0,w0⟩:=w0
  have I3:Inv (blk X scope N' C fp s₂ H₂) [] (jns ix σ) H₂ { s₂ with heap:=h₁,toks:=s₂.toks + ([] : List (Str × Value)).length }:=jwr I co hCe.symm hf hlt old hns₁
  refine jv1 (fun k s'=>∃ i σ' H',Inv (blk X scope N' C fp s₂ H₂) [] σ' H' s' ∧ tn i s'.heap ∧ (∀ b ∈ fp,H' b = none) ∧ W i k σ' H') ?_ m0 ⟨0,_,_,I3,st₁,fun b hb=>(hf b hb).1,w0⟩
  rintro k s' ⟨i,σ',H',I',st',fr',w'⟩
  have fpok : ∀ {H':Hp},(∀ b ∈ fp,H' b = none) → ∀ b ∈ fp,jt0 (blk X scope N' C fp s₂ H₂) [] H' b:=fun {H'} hn b hb=>by
   refine ⟨hn b hb,below b (hCe ▸ hlt b hb),fun z=>?_,.inl hb,fun x c e=>(hf b hb).2.2.2.2.1 x c (jaf e),fun p hp=>?_⟩
   ·rcases List.mem_cons.mp (I.jpt b z) with e | e
    ·exact (hf b hb).2.1 e
    ·exact (hf b hb).2.2.1 e
   ·have hp':p ∈ ([] : List (Addr × Obj)):=by simpa [blk] using hp
    cases hp'
  rcases hW i k σ' H' w' with ⟨stop,q⟩ | ⟨go,N,hN,step⟩
  ·refine thn (T.done (blk X scope N' C fp s₂ H₂) rfl rfl rfl hc i _ s' σ' H' NoE I' (fpok fr') st' stop) fun r s4 ⟨hr,I4⟩=>?_
   subst hr
   have cf:H' C = none:=I4.free
   refine hRR C H' s4 (jwd I hf I4) q ⟨?_,cf,?_,?_,fun x c e=>?_,fun p hp=>?_⟩
   ·obtain ⟨m,hn,_⟩:=I4.loc
    exact ⟨m,hn⟩
   ·have z : @LT.lt Nat _ X.env.locals s₂.heap.objs.size:=I.lt
    show ¬ @Eq Nat C X.env.locals
    omega
   ·have z : @LE.le Nat _ X.s₀.heap.objs.size s₂.heap.objs.size:=I.sz
    show @LE.le Nat _ X.s₀.heap.objs.size C
    omega
   ·obtain ⟨v,z⟩:=I.cell x c e
    have z2 : @LT.lt Nat _ c s₂.heap.objs.size:=z.lt
    show ¬ @Eq Nat c C
    omega
   ·have z2 : @LT.lt Nat _ p.1 s₂.heap.objs.size:=Heap.lt_size (I.pin p hp).1
    show ¬ @Eq Nat p.1 C
    omega
  ·refine thn (T.item (blk X scope N' C fp s₂ H₂) rfl rfl rfl hc i _ s' σ' H' NoE I' (fpok fr') st' go) fun r s4 ⟨u,hr,h4⟩=>?_
   subst hr
   refine thn h4 fun _ s5 ⟨x,H5,I5,r5,y5,st5,fr5⟩=>?_
   have I5':=I5.pinned (fpok fr5) (T.obj _ _ st5)
   refine thn (hg C fp s₂ H₂ _ s5 σ' H5 x u _ I5' r5 (step x H5 y5)) fun _ s6 ⟨σ6,H6,I6,q6⟩=>?_
   refine thn (hi C fp s₂ H₂ _ s6 σ6 H6 _ I6 q6) fun ok s7 ⟨H7,I7,q7⟩=>?_
   have back : ∀ {σ8:St} {H8:Hp} {s8:Shared},Inv (blk X scope N' C fp s₂ H₂) ([] ++ jlg fp s5.heap) σ8 H8 s8 → N σ8 H8 → ∃ m',m' < k ∧ ∃ i σ' H',Inv (blk X scope N' C fp s₂ H₂) [] σ' H' s8 ∧ tn i s8.heap ∧ (∀ b ∈ fp,H' b = none) ∧ W i m' σ' H':=fun {σ8 H8 s8} I8 n8=>by
    obtain ⟨m',hm,w8⟩:=hN _ _ n8
    have fpin : ∀ b ∈ fp,∀ o,s5.heap.get? b = some o → s8.heap.get? b = some o ∧ H8 b = none:=fun b hb o e=>by
     have z:=I8.pin (b,o) (List.mem_append_right _ (List.mem_append_right _ (jh3 hb e)))
     exact ⟨z.1,z.2.1⟩
    refine ⟨m',hm,i + 1,σ8,H8,I8.jld,T.keep _ _ _ st5 fun b hb o e=>(fpin b hb o e).1,fun b hb=>?_,w8⟩
    obtain ⟨o,e,_⟩:=T.obj _ _ st5 b hb
    exact (fpin b hb o e).2
   cases ok with
   | false=>
    have q7':=q7
    rw [if_neg Bool.false_ne_true] at q7'
    exact back I7 q7'
   | true=>
    have q7':=q7
    rw [if_pos rfl] at q7'
    show wpAny _ _ _ _ _ _
    refine thn (hk C fp s₂ H₂ _ s7 σ6 H7 _ I7 q7') fun kv s8 ⟨y,H8,I8,r8,q8⟩=>?_
    refine thn (hv C fp s₂ H₂ _ s8 σ6 H8 _ I8 q8) fun vv s9 ⟨z,H9,I9,r9,H10,dp,q9⟩=>?_
    exact jy1 (X:=blk X scope N' C fp s₂ H₂) (A:=X.A) hu I9 dp r8 r9 fun s10 I10=>back I10 q9
 exact codeAny_compStart_dict (loop _ rfl) (T.self _ 0 _ _ _ st₁ (loop _ rfl))
variable {scope:Scope} {N':List Str} {ix:List (Option Nat)} {tg iter kx vx:Expr} {ifs:List Expr} {pos:Pos} {wi:TI} {g:TG} {ti:TT} {tk tv:TE}
theorem j0f (new:HO) (hnew:new = .dK [] ∨ new = .dT []) (hu:X.A.units + 1 < cLine) (co:ji1 X.N X.env.scope scope N' ix) (hc:X.calm = true) (hit:PI X tg iter wi) (hg : ∀ C fp s₂ H₂,PG (blk X scope N' C fp s₂ H₂) tg g) (hi : ∀ C fp s₂ H₂,PIf (blk X scope N' C fp s₂ H₂) ifs ti)
  (hk : ∀ C fp s₂ H₂,PE (blk X scope N' C fp s₂ H₂) kx tk) (hv : ∀ C fp s₂ H₂,PE (blk X scope N' C fp s₂ H₂) vx tv) (hs : ∀ x,foldedSetIterable iter X.env x = pure x:=by intro _; rfl) :
  PE X (.DictComp kx vx [⟨tg,iter,ifs,0⟩] scope pos) (tDc new ix wi g ti tk tv):=by
 intro pins s σ H Q I h
 show wpAny _ _ (comprehension (.DictComp kx vx [⟨tg,iter,ifs,0⟩] scope pos) scope X.env _ newDict false (eval iter X.env)) _ _ s
 refine wpAny_comprehension_free (use:=none) rfl hs (joa co I) co.kind co.names (thn (hit pins s σ H _ I h) fun xv s₁ h₁=>thn h₁ fun itv s₂ h₂=>?_)
 obtain ⟨it,fp,tn,J,H₂,e,I₂,T,st,hf,hq⟩:=h₂
 subst e
 refine wpAny_newObj_type ?_
 have hn:H₂ s₂.heap.objs.size = none:=I₂.hok.fresh (Nat.le_refl _)
 have hob:we X.prog X.w (upd H₂ s₂.heap.objs.size new) (s₂.heap.push { cls:=.type "dict",dict:=none,data:=.dict #[] }) s₂.heap.objs.size new:=by
  rcases hnew with z | z
  ·rw [z]; exact jz5 s₂.heap I₂.big
  ·rw [z]; exact jvf s₂.heap I₂.big
 have I₃:Inv X pins σ (upd H₂ s₂.heap.objs.size new) { s₂ with heap:=s₂.heap.push { cls:=.type "dict",dict:=none,data:=.dict #[] } }:=I₂.laid (a:=s₂.heap.objs.size) (o:=new) (t':=s₂.toks) (fun _ _ q=>Heap.get?_push_of_some _ q) (Nat.le_refl _) hob
 obtain ⟨W,w0,hW⟩:=hq s₂.heap.objs.size hn
 have hf' : ∀ b ∈ fp,jt0 X pins (upd H₂ s₂.heap.objs.size new) b:=fun b hb=>by
  obtain ⟨f0,f⟩:=hf b hb
  obtain ⟨o,e,_⟩:=T.obj _ _ st b hb
  exact ⟨by rw [je (Nat.ne_of_lt (Heap.lt_size e))]; exact f0,f⟩
 refine jzw co hc (Nat.lt_of_succ_lt hu) hg hi hk hv I₃ T (T.keep _ _ _ st fun b _ o e=>Heap.get?_push_of_some _ e) hf' w0 hW
  (RR:=fun C=>compPost (model X.prog X.w) X.A X.xe none (EP X pins σ Q) (.ref s₂.heap.objs.size) C) fun C H' s' I' q G=>?_
 obtain ⟨m,hn⟩:=G.ns
 exact ⟨m,hn,fun h' hs'=>⟨.ref s₂.heap.objs.size,_,G.go I' hs',rfl,q⟩⟩
end
end L2
namespace L2
open PySem PySem.Spec PyProof.Rows
section
variable {X:Cx} {pins:List (Addr × Obj)} {σ : St} {H:Hp} {s:Shared} {h':Heap}
end
end L2
namespace L2
open PySem PySem.Spec PyProof.Rows
theorem jqm (bt:Nat → Nat → Bool) : ∀ k,argBest bt k ≤ k
 | 0=>Nat.le_refl _
 | k + 1=>by
  have:=jqm bt k
  unfold argBest
  split <;> omega
section
variable {prog:Program} {w:World} {A:Around} {s:Shared} {l it S:Addr} {vs:List Value} {bt:Nat → Nat → Bool} {R:Result → Shared → Prop}
end
section
variable {prog:Program} {w:World} {A:Around} {s:Shared} {l:Addr} {vs:List Value} {bt:Nat → Nat → Bool} {E:Value → Shared → Prop}
end
section
variable {X:Cx}
end
end L2
namespace L2
open PySem PySem.Spec PyProof.Rows
section
variable {X:Cx} {K:PySem.W.Frag}
theorem jxn (hK:X.K = K) : IxR X (j7d K):=by
 subst hK
 exact ji2
end
end L2
namespace PySem
section
variable {prog:Program} {w:World} {K:Type} [DecidableEq K] {knd:HeapKind prog w K} {A:Around} {E:Value → Shared → Prop} {s:Shared}
theorem j54 {h:Heap} {d a:Addr} {xs:List (K × Addr × Value)} {k:K} {v:Value} {o:Obj} {es:Array DictEntry} {ep:Nat} (ho:h.get? d = some o) (hc:o.ExactDict) (hd:o.data = .dict es ep) (he:es.toList = xs.map (entryOfKey knd))
  (his : ∀ x ∈ xs,knd.is h x.1 x.2.1) (hn:(xs.map (·.1)).Nodup) (hkey:knd.is h k a) (hnot:k ∉ xs.map (·.1)) :
  (h.update d (Obj.mapDictKeys (·.push ⟨knd.hash k,.ref a,v⟩))).DictOfH knd d (xs ++ [(k,a,v)]):=by
 refine ⟨_,_,ep + 1,Heap.get?_update_self _ ho (Obj.isFreed_of_dict (Obj.data_mapDictKeys hd _)),hc.mapDictKeys _,Obj.data_mapDictKeys hd _,by simp [he,entryOfKey],fun x hx=>?_,?_⟩
 ·have old:knd.is h x.1 x.2.1:=(List.mem_append.mp hx).elim (his x) fun z=>by
   rw [List.mem_singleton.mp z]
   exact hkey
  exact knd.keeps old ho hd (Heap.SameBut.update ..)
 ·have p:((xs ++ [(k,a,v)]).map (·.1)).Perm (k :: xs.map (·.1)):=by
   rw [List.map_append]
   exact List.perm_append_comm
  exact p.nodup_iff.mpr (List.nodup_cons.mpr ⟨hnot,hn⟩)
theorem j2p {d a:Addr} {xs:List (K × Addr × Value)} {k:K} {dflt:Value} {Q:Value → Shared → Prop} (hu:knd.room A) (hkey:knd.is s.heap k a) (hm:s.heap.DictOfH knd d xs) (hsz:xs.length ≤ sizeLine)
  (h1 : ∀ p,atKey xs k = some p → Q p.2 { s with toks:=s.toks + knd.draws k })
  (h2:atKey xs k = none → ∀ h',h'.DictOfH knd d (xs ++ [(k,a,dflt)]) → Heap.SameBut d s.heap h' → Q dflt { s with heap:=h',toks:=s.toks + knd.draws k }) :
  wpAny (model prog w) A (dictSetDefault d (.ref a) dflt) Q E s:=by
 obtain ⟨o,es,ep,ho,hc,hd,he,his,hn⟩:=hm
 have sz:es.size = xs.length:=by
  have:=congrArg List.length he
  simpa using this
 unfold dictSetDefault
 refine wpAny_holding (wpAny_bind (knd.pyHash hu hkey (wpAny_bind (wpAny_dictFind_heap (s:={ s with toks:=s.toks + knd.draws k }) hu hkey ho hd he his hn (fun hno=>?_) (fun j p hj=>?_)))))
 ·refine wpAny_bind (wpAny_rule (wpAny_bind (wpAny_updateDictKeys (hz:=by omega) (s:={ s with toks:=s.toks + knd.draws k }) ho hd (wpAny_pure (h2 (atKey_none_of_get hno) _ (j54 ho hc hd he his hn hkey (not_mem_keys_of_get hno)) (Heap.SameBut.update ..))))))
 ·refine wpAny_bind (wpAny_dictEntries (s:={ s with toks:=s.toks + knd.draws k }) ho hd ?_)
  rw [entry_at he j,hj]
  exact wpAny_bind (wpAny_rule (wpAny_pure (h1 _ (atKey_of_get hn hj))))
theorem jmh (knd:HeapKind prog w K) (d a:Addr) (hd:(d == sysModules) = false) (dflt:Value) :
  MeetsIn prog w (Builtin.«dict.setdefault» ⟨[.ref d,.ref a,dflt],[]⟩) (fun A R s=>knd.room A.in1 ∧ ∃ k xs,knd.is s.heap k a ∧ s.heap.DictOfH knd d xs ∧ xs.length ≤ sizeLine ∧
   (∀ p,atKey xs k = some p → R (.ok (.ret p.2)) { s with toks:=s.toks + knd.draws k }) ∧
   (atKey xs k = none → ∀ h',h'.DictOfH knd d (xs ++ [(k,a,dflt)]) → Heap.SameBut d s.heap h' → R (.ok (.ret dflt)) { s with heap:=h',toks:=s.toks + knd.draws k })):=
 .of_wp fun A R s ⟨hu,k,xs,hkey,hm,hz,h1,h2⟩=>by
  have run:=j2p (prog:=prog) (w:=w) (E:=fun e s'=>R (.error e) s') (Q:=fun v s'=>R (.ok (.ret v)) s') hu hkey hm hz h1 h2
  unfold Builtin.«dict.setdefault» Builtin.Dict.keyAndDefault
  refine wpAny_bind (wpAny_bind (wpAny_notOrdered_dict hm.typeIs ?_))
  show wpAny _ _ (pure (d,Value.ref a,some dflt)) _ _ s
  refine wpAny_pure ?_
  show wpAny _ _ (if (d == sysModules) = true then _ else (dictSetDefault d (.ref a) dflt >>= _)) _ _ s
  rw [if_neg (by rw [hd]; exact Bool.false_ne_true)]
  exact wpAny_bind (wpAny_mono run (fun v s' q=>wpAny_pure ⟨v,rfl,q⟩) fun _ _ z=>z)
end
end PySem
namespace L2
open PySem PySem.Spec PyProof.Rows
def j0o (td ty tx:TE) : TE:=fun σ H Q=>td σ H fun x H1=>∃ a,x = .ref a ∧ IsD H1 a ∧ ty σ H1 fun y H2=>tx σ H2 fun z H3=>∃ kvs k b,H3 a = some (.dT kvs) ∧ y = .ref b ∧ H3 b = some (.tup (k.map kV)) ∧ kvs.length < sizeLine ∧
 (∀ v,jgm kvs k = some v → Q v H3) ∧ (jgm kvs k = none → Q z (upd H3 a (.dT (putK kvs k z))))
section
variable {X:Cx} {o e f:Expr} {apos cpos:Pos} {td ty tx:TE}
theorem jvz (hu:X.A.units + 1 < cLine) (ho:PE X o td) (he:PE X e ty) (hf:PE X f tx) (m:M2 X o "setdefault" apos e f cpos) : PE X (.Call (.Attribute o "setdefault" apos) [e,f] [] cpos) (j0o td ty tx):=by
 intro pins s σ H Q I h
 refine wpAny_Call_method m.base m.few m.line PySem.F.plainAttrs_dict PySem.F.slot_dict_setdefault PySem.F.type_dict_setdefault (thn (ho pins s σ H _ I h) fun u s1 ⟨x,H1,I1,rx,a,ex,d,q1⟩=>?_)
 subst ex
 obtain rfl:u = Value.ref a:=rx
 obtain ⟨t1,t2,_⟩:=j1f I1 d
 refine ⟨t1,t2,?_⟩
 rw [m.trees]
 refine Calls.callWith_builtin rfl (Calls.evalArgs_plain (Calls.spliced_cons (thn (he pins s1 σ H1 _ I1 q1) fun iv s2 ⟨y,H2,I2,ry,q2⟩=>
  Calls.spliced_cons (thn (hf pins s2 σ H2 _ I2 q2) fun fv s3 ⟨z,H3,I3,rz,kvs,k,b,ea,ey,eb,hl,g1,g2⟩=>Calls.spliced_nil ?_))))
 subst ey
 cases (show iv = Value.ref b from ry)
 obtain ⟨hz,hd,xs,rel,dd⟩:=j2r I3.hok ea
 have hz':xs.length ≤ sizeLine:=by rw [← Paired.length rel]; exact hz
 refine call_meetsIn PySem.F.slot_dict_setdefault dd.typeIs PySem.F.entry_dict_setdefault (PySem.F.args_dict_setdefault_3 _ _ _) (jmh (tupleKind (zf X.prog X.w)) a b hd fv) ⟨tupleKind_room_in1 hu,k,xs,jm5 I3.hok eb,dd,hz',fun p hp=>?_,fun hn h' dd' hs=>?_⟩
 ·have rv:=rel.val k
  rw [hp] at rv
  cases hv:jgm kvs k with
  | none=>
   rw [hv] at rv
   cases rv
  | some v=>
   rw [hv] at rv
   exact ⟨v,H3,I3.tok _,rv,g1 v hv⟩
 ·have rv:=rel.val k
  rw [hn] at rv
  have hv:jgm kvs k = none:=by
   cases hv:jgm kvs k with
   | none=>rfl
   | some v=>
    rw [hv] at rv
    cases rv
  have hl2:(putK kvs k z).length ≤ sizeLine:=by have:=jcj kvs k z; omega
  have rel':=rel.put k eb rz
  rw [storedH_new hn] at rel'
  obtain ⟨q,es,ep,hq,h2,h3,h4,_,h5⟩:=dd'
  refine ⟨z,_,jop (ob:=.dT (putK kvs k z)) I3 (by rw [ea]; exact True.intro) hs ⟨q,hq⟩ ⟨hl2,hd,_,rel'.keeps fun c ys ec=>?_,q,es,ep,hq,h2,h3,h4,h5⟩,rz,g2 hv⟩
  rw [je (jlw ec ea (fun z=>nomatch z))]
  exact ec
end
end L2
namespace PySem
section
variable {prog:Program} {w:World} {A:Around} {E:Value → Shared → Prop} {s:Shared}
theorem j0m {it d:Addr} {i ep:Nat} {es:Array DictEntry} {od:Obj} {Q:Option Value → Shared → Prop} (hit:s.heap.IsKeyIter it d i es.size ep) (hod:s.heap.get? d = some od) (hdd:od.data = .dict es ep) (hlt:i < es.size)
  (hQ : ∀ h',h'.IsKeyIter it d (i + 1) es.size ep → Heap.SameBut it s.heap h' → Q (some es[i].key) { s with heap:=h' }) : wpAny (model prog w) A (pyNext (.ref it)) Q E s:=by
 obtain ⟨o,ho,hc,hd⟩:=id hit
 have hT:=hit.typeIs
 unfold pyNext
 refine wpAny_bind (wpAny_attempt ?_)
 refine wpAny_callSpecial?_slot hT F.slot_dict_keyiterator_next ?_
 refine wpAny_call_entry F.slot_dict_keyiterator_next hT F.entry_dict_keyiterator_next ?_ (F.args_dict_keyiterator_next_1 _)
 unfold Builtin.«dict_keyiterator.__next__»
 wp_walk using wpAny_typeNameOfWhole_keyiter hT,wpAny_fieldsOf ho hd,wpAny_dictEntries hod hdd,wpAny_dictEpoch hod hdd,wpAny_isOneOf_keyiter hT
 rw [if_neg (show ¬ (i:Int) < 0 by omega),Int.toNat_natCast,Array.getElem?_eq_getElem hlt]
 have hown:Builtin.Dict_items.ownsTuple "dict_keyiterator" = false:=by decide
 have hit':(s.heap.update it (Obj.mapFields (·.setIfInBounds 1 (rawInt ((i:Int) + 1))))).IsKeyIter it d (i + 1) es.size ep:=
  ⟨_,Heap.get?_update_self _ ho (Obj.isFreed_of_fields (Obj.data_mapFields hd _)),(Obj.cls_mapFields ..).trans hc,by rw [Obj.data_mapFields hd]; simp [rawInt]⟩
 refine wpAny_bind ?_
 wp_walk using wpAny_typeNameOfWhole_keyiter hT
 rw [hd]
 show wpAny _ _ (update it (Obj.mapFields (·.setIfInBounds 1 (rawInt ((i:Int) + 1))))) _ _ s
 refine wpAny_update ho (wpAny_bind (wpAny_holding ?_))
 wp_walk using wpAny_isOneOf_keyiter (s:={ s with heap:=s.heap.update it (Obj.mapFields (·.setIfInBounds 1 (rawInt ((i:Int) + 1)))) }) hit'.typeIs
 exact ⟨_,rfl,wpAny_pure (hQ _ hit' (Heap.SameBut.update ..))⟩
theorem jsu {it d:Addr} {i ep:Nat} {es:Array DictEntry} {od:Obj} {Q:Option Value → Shared → Prop} (hh:A.handled = none) (hit:s.heap.IsKeyIter it d i es.size ep) (hod:s.heap.get? d = some od) (hdd:od.data = .dict es ep) (hge:es.size ≤ i)
    (hQ : ∀ h',Heap.ExtBut it s.heap h' → Q none { s with heap:=h' }) : wpAny (model prog w) A (pyNext (.ref it)) Q E s:=by
  obtain ⟨o,ho,hc,hd⟩:=id hit
  have hT:=hit.typeIs
  unfold pyNext
  refine wpAny_bind (wpAny_attempt ?_)
  refine wpAny_callSpecial?_slot hT F.slot_dict_keyiterator_next ?_
  refine wpAny_call_entry F.slot_dict_keyiterator_next hT F.entry_dict_keyiterator_next ?_ (F.args_dict_keyiterator_next_1 _)
  unfold Builtin.«dict_keyiterator.__next__»
  wp_walk using wpAny_typeNameOfWhole_keyiter hT,wpAny_fieldsOf ho hd,wpAny_dictEntries hod hdd,wpAny_dictEpoch hod hdd,wpAny_isOneOf_keyiter hT
  rw [if_neg (show ¬ (i:Int) < 0 by omega),Int.toNat_natCast,Array.getElem?_eq_none hge]
  wp_walk using wpAny_typeNameOfWhole_keyiter hT
  rw [hd]
  show wpAny _ _ (update it (Obj.mapFields (·.setIfInBounds 0 .none))) _ _ s
  refine wpAny_update ho ?_
  unfold newExc raiseNew newTuple firstArgMember
  wp_walk using wpAny_newObj_type
  all_goals first
    | (show wpAny _ _ (isSubtype (.type "StopIteration") (.type "StopIteration")) _ _ _
       rw [isSubtype_stop]
       exact wpAny_pure (wpAny_pure (hQ _ (((Heap.SameBut.update ..).extBut.push _).push _))))
    | (unfold autoParam; size_fits)
    | size_fits
theorem j0z {d:Addr} {es:Array DictEntry} {ep:Nat} {od:Obj} {Q:Value → Shared → Prop} (hd:(d == sysModules) = false) (hod:s.heap.get? d = some od) (hx:od.ExactDict) (hdd:od.data = .dict es ep)
  (hQ:Q (.ref s.heap.objs.size) { s with heap:=s.heap.push { cls:=.type "dict_keyiterator",data:=.fields #[.ref d,.int 0 0,.int es.size 0,.int ep 0] } }) : wpAny (model prog w) A (pyIter (.ref d)) Q E s:=by
 have hT:s.TypeIs (.ref d) "dict" := ⟨od,hod,hx.1⟩
 have run:wpAny (model prog w) A.in1 (Builtin.«dict.__iter__» ⟨[.ref d],[]⟩) (fun fin s'=>fin = .done (.ret (.ref s.heap.objs.size)) ∧ s' = { s with heap:=s.heap.push { cls:=.type "dict_keyiterator",data:=.fields #[.ref d,.int 0 0,.int es.size 0,.int ep 0] } }) E s:=by
  unfold Builtin.«dict.__iter__» Builtin.Dict.dictSlotNone Builtin.Dict.showsAll
  wp_walk using wpAny_notOrdered_dict hT,wpAny_dictEntries hod hdd,wpAny_dictEpoch hod hdd
  exact ⟨rfl,rfl⟩
 refine wpAny_pyIter_slot hT F.slot_dict_iter (wpAny_call_entry F.slot_dict_iter hT F.entry_dict_iter (wpAny_mono run (fun f s' z=>?_) fun _ _ z=>z) (F.args_dict_iter_1 _))
 obtain ⟨rfl,rfl⟩:=z
 exact ⟨_,rfl,"dict_keyiterator",_,⟨_,Heap.get?_push_size _ rfl,rfl⟩,F.slot_dict_keyiterator_next.lookup,hQ⟩
end
end PySem
namespace L2
open PySem PySem.Spec PyProof.Rows
def j4a (a:Addr) (o:Obj) (kvs:List (List Key × V)) : It where
 go:=fun i H=>i < kvs.length ∧ H a = some (.frz o (.dT kvs))
 yld:=fun i H x H'=>H' = H ∧ ∃ kv b,kvs[i]? = some kv ∧ x = .ref b ∧ H b = some (.tup (kv.1.map kV))
 stop:=fun i H=>kvs.length ≤ i ∧ H a = some (.frz o (.dT kvs))
theorem qi {α β : Type} {F : α → β → Prop} : ∀ {xs:List α} {ys:List β} {i:Nat} {x : α},Paired F xs ys → xs[i]? = some x → ∃ y,ys[i]? = some y ∧ F x y
 | _,_,_,_,.nil,e=>by simp at e
 | _,_,0,_,.cons h _,e=>by
  cases Option.some.inj e
  exact ⟨_,rfl,h⟩
 | _,_,i + 1,_,.cons _ r,e=>qi (i:=i) r e
theorem j2k {P:Program} {w:World} {K:PySem.W.Frag} {tg:Expr} (a it:Addr) (o:Obj) (kvs:List (List Key × V)) (es:Array DictEntry) (ep:Nat) (hd:o.data = .dict es ep) : Turn P w K tg (j4a a o kvs) [it] it (fun i h=>h.IsKeyIter it a i kvs.length ep) where
  mem:=by simp
  obj:=fun i h st b hb=>by
    have e:b = it:=by simpa using hb
    subst e
    obtain ⟨o,e,c,d⟩:=st
    exact ⟨o,e,fun v z=>by rw [d] at z; cases z⟩
  keep:=fun i h h' st k=>st.at fun o e=>k it (by simp) o e
  item:=by
    intro X hP hw hK hc i pins s σ H E I hf st hg
    subst hP hw hK
    obtain ⟨hi,hq⟩:=hg
    obtain ⟨ho,hz,hs,xs,r,o',es',ep',ho',hx',hd',he,nd⟩:=I.hok a _ hq
    cases Option.some.inj (ho'.symm.trans ho)
    rw [hd] at hd'
    cases hd'
    have hsz:es.size = kvs.length:=by
      have e1:=congrArg List.length he
      rw [List.length_map,← Paired.length r] at e1
      simpa using e1
    obtain ⟨kv,ekv⟩ : ∃ kv,kvs[i]? = some kv:=⟨kvs[i],by simp [hi]⟩
    obtain ⟨x,ex,e1,e2,e3⟩:=qi r ekv
    have hlt:i < es.size:=by omega
    have hkey:es[i].key = .ref x.2.1:=by
      have h1:es.toList[i]? = some es[i]:=by simp [hlt]
      rw [he,List.getElem?_map,ex] at h1
      rw [← Option.some.inj h1]
      rfl
    obtain ⟨f0,f1,f2,f3,f4,f5⟩:=hf it (by simp)
    rw [← hsz] at st
    refine j0m st ho hd hlt fun h' st' sb=>?_
    have I1:Inv X pins σ H { s with heap:=h' }:=I.turned (t':=s.toks) (fun b o hb e=>(sb.2 b hb).trans e) f0 f1 f3 f4 f5
    rw [hsz] at st'
    rw [hkey]
    obtain ⟨oi,ei,ci,di⟩:=id st'
    exact ⟨_,rfl,jwf (s:={ s with heap:=h' }) ei ci di (by decide) ⟨.ref x.2.1,H,I1,rfl,⟨rfl,kv,x.2.1,ekv,rfl,by rw [e1]; rw [e1] at e2; exact e2⟩,st',fun b hb=>(hf b hb).1⟩⟩
  done:=by
    intro X hP hw hK hc i pins s σ H E I hf st hg
    subst hP hw hK
    obtain ⟨hi,hq⟩:=hg
    obtain ⟨ho,hz,hs,xs,r,o',es',ep',ho',hx',hd',he,nd⟩:=I.hok a _ hq
    cases Option.some.inj (ho'.symm.trans ho)
    rw [hd] at hd'
    cases hd'
    have hsz:es.size = kvs.length:=by
      have e1:=congrArg List.length he
      rw [List.length_map,← Paired.length r] at e1
      simpa using e1
    obtain ⟨f0,f1,f2,f3,f4,f5⟩:=hf it (by simp)
    rw [← hsz] at st
    exact jsu (I.ok.hd hc) st ho hd (by omega) fun h' eb=>⟨rfl,I.turned (t':=s.toks) (fun b o hb e=>eb b o hb e) f0 f1 f3 f4 f5⟩
  self:=fun _ _ _ _ _ st h=>wpAny_pyIter_keyiter st h
def iDt (tl:TE) : TI:=fun σ H R=>tl σ H fun x H1=>∃ a kvs,x = .ref a ∧ H1 a = some (.dT kvs) ∧ ∀ o,R (j4a a o kvs) (upd H1 a (.frz o (.dT kvs)))
theorem j6j {X:Cx} {tg l:Expr} {tl:TE} (hl:PE X l tl) : PI X tg l (iDt tl):=by
 intro pins s σ H R I h
 refine thn (hl pins s σ H _ I h) fun v s1 ⟨x,H1,I1,r1,q1⟩=>?_
 obtain ⟨a,kvs,e,hq,q⟩:=q1
 subst e
 cases r1
 obtain ⟨hz,hs,xs,r,o,es,ep,ho,hx,hd,he,nd⟩:=I1.hok a _ hq
 have hsz:es.size = kvs.length:=by
  have e1:=congrArg List.length he
  rw [List.length_map,← Paired.length r] at e1
  simpa using e1
 refine j0z hs ho hx hd ?_
 have I2:=I1.freeze (show Mut (some (HO.dT kvs)) from True.intro) hq ho
 have hn:upd H1 a (.frz o (.dT kvs)) s1.heap.objs.size = none:=I2.hok.fresh (Nat.le_refl _)
 refine ⟨s1.heap.objs.size,[s1.heap.objs.size],_,_,_,rfl,I2.kept (t':=s1.toks) fun b o e=>Heap.get?_push_of_some _ e,j2k a _ o kvs es ep hd,?_,fun b hb=>?_,q o⟩
 ·rw [← hsz]
  exact ⟨_,Heap.get?_push_size _ rfl,rfl,rfl⟩
 ·have e:b = s1.heap.objs.size:=by simpa using hb
  subst e
  exact I2.j3o (Nat.le_refl _) hn
end L2
namespace PySem
section
variable {prog:Program} {w:World} {A:Around} {E:Value → Shared → Prop} {s:Shared}
end
end PySem
namespace L2
open PySem PySem.Spec PyProof.Rows
section
variable {prog:Program} {w:World} {A:Around} {E:Value → Shared → Prop} {s:Shared} {a:Addr} {js:List Nat}
end
section
variable {prog:Program} {w:World} {A:Around} {E:Value → Shared → Prop} {s:Shared} {a:Addr} {js:List Nat}
end
section
variable {prog:Program} {w:World} {A:Around} {E:Value → Shared → Prop} {s:Shared} {a:Addr} {js:List Nat}
end
section
variable {X:Cx}
end
end L2
namespace L2
open PySem PySem.Spec PyProof.Rows
section
variable {K:Type} [DecidableEq K]
end
section
variable {prog:Program} {w:World} {A:Around} {E:Value → Shared → Prop} {s:Shared}
end
section
variable {X:Cx}
end
end L2
namespace L2
open PySem PySem.Spec PyProof.Rows
section
variable {X:Cx}
end
section
variable {X:Cx} {K:PySem.W.Frag}
theorem jwh (hK:X.K = K) (hu:X.A.units + 64 < cLine) : OpR X (compareOp .NotIn) (j63 K true):=by
 subst hK
 exact jse hu
end
end L2
namespace L2
open PySem PySem.Spec PyProof.Rows
section
variable {X:Cx}
end
end L2
namespace L2
open PySem PySem.Spec PyProof.Rows
section
variable {X:Cx}
theorem jv3:jnm X (.builtin "isinstance") (fun xs H Q=>∃ x q,xs = [.ref x,.ref q] ∧ H q = some (.tup [.ty "list",.ty "tuple"]) ∧ ((∃ ys,SqL X.K H x ys) ∨ ∃ ys,SqT X.K H x ys) ∧ Q (.bl true) H):=by
 intro pins s σ H xs us Q I r h
 obtain ⟨x,q,rfl,hq,hx,k⟩:=h
 obtain ⟨u,w,rfl,r1,r2⟩:=vals2 r
 cases r1
 cases r2
 obtain ⟨ts,rt,ht,_⟩:=I.tuple (SqT.of hq)
 obtain ⟨a,b,rfl,ra,rb⟩:=vals2 rt
 obtain rfl:a = Value.type "list" := ra
 obtain rfl:b = Value.type "tuple" := rb
 obtain ⟨⟨c,dd,dt,sl⟩,ho,hc,n,hd⟩:=ht
 simp only at hc hd
 subst hc hd
 have fin : ∀ tk,EP X pins σ Q (.bool true) { s with toks:=tk }:=fun tk=>⟨.bl true,H,I.tok tk,rfl,k⟩
 rcases hx with ⟨ys,hy⟩ | ⟨ys,hy⟩
 ·obtain ⟨its,_,pl,_⟩:=I.list hy
  obtain ⟨o,ho2,hc2,_⟩:=pl.isList
  exact PySem.W.kia_tup (its:=[.type "list",.type "tuple"]) PySem.W.kitx_list I.kIn ⟨o,ho2,hc2⟩ ho rfl (fun z=>nomatch z) fin
 ·obtain ⟨its,_,⟨o,ho2,hc2,_⟩,_⟩:=I.tuple hy
  exact PySem.W.kia_tup (its:=[.type "list",.type "tuple"]) PySem.W.kitx_tuple I.kIn ⟨o,ho2,hc2⟩ ho rfl (fun z=>nomatch z) fin
def iOr (a b:TI) : TI:=fun σ H R=>a σ H R ∨ b σ H R
theorem j50 {tg l:Expr} {a b:TI} (h1:PI X tg l a) (h2:PI X tg l b) : PI X tg l (iOr a b):=by
 intro pins s σ H R I h
 rcases h with h | h
 ·exact h1 pins s σ H R I h
 ·exact h2 pins s σ H R I h
theorem j30 {tg l:Expr} {tl:TE} (hl:PE X l tl) : PI X tg l (iOr (j3y X.K tl) (j7i X.K tl)):=j50 (jbh hl) (j4l hl)
end
end L2
namespace L2
open PySem PySem.Spec PyProof.Rows
section
variable {X:Cx} {CX:CXT} {k:Nat} {C f:Addr} {fd:FuncData} {ps ks:List Str} {sp:Sp} {E:XK} {g:List Value → List Value → List Value} {gV:List V → List V → List V} {x:Str} {p pos:Pos} {e:Expr} {es:List Expr} {kws:List Keyword} {t tk:TA}
theorem jw0 {pins:List (Addr × Obj)} {σ : St} {H:Hp} {s:Shared} {Q:VK} {us ws:List Value} {vs zs:List V} (M:Mk X.K C f) (F:yf X.prog X.w X.K X.mg X.base CX k f fd ps sp) (hr:jfi (k + 1) X.A) (hb:jf5 X.K fd ps ks g gV)
  (hx:Passes CX X E) (I:Inv X pins σ H s) (r:Vals vs us) (rz:Vals zs ws)
  (h : ∀ x dx,H x = none → H dx = none → dx ≠ x → sp (gV (.ref x :: vs) zs) (upd (upd H dx (.own x)) x (.ins C dx [])) (fun v H2=>v = .non ∧ Q (.ref x) H2) E) :
  wpAny (model X.prog X.w) X.A (call (.ref C) us (ks.zip ws)) (EP X pins σ Q) X.xe s:=by
 have hq:=h (s.heap.objs.size + 1) s.heap.objs.size (I.hok.fresh (Nat.le_succ _)) (I.hok.fresh (Nat.le_refl _)) (Nat.ne_of_lt (Nat.lt_succ_self _))
 have I2:=Inv.made (C:=C) I
 have r2:=hb.rel (Paired.cons (show RelV (V.ref (s.heap.objs.size + 1)) (Value.ref (s.heap.objs.size + 1)) from rfl) r) rz
 have hl:(g (Value.ref (s.heap.objs.size + 1) :: us) ws).length = ps.length:=by
  rw [← Paired.length r2]
  exact F.len _ _ _ _ hq
 refine wpAny_call (jva (f:=f) I.kIn M.makes M.init (beq_iff_eq.mp M.fn) (codeAny_mono (F.run _ X.stack _ _ ⟨Value.ref (s.heap.objs.size + 1) :: us,ks.zip ws⟩ _ _ _ E (hr.make C us (ks.zip ws))
  (I2.j3k.make C us (ks.zip ws)) (hb.to _ _ _ I2.kIn hl) r2 hq) fun r s' hq'=>?_))
 cases r with
 | error e=>exact hx pins σ _ _ e s' I2 hq'
 | ok fl=>
  cases fl with
  | ret u=>
   obtain ⟨v,H',I3,rv,ev,q3⟩:=I2.after hq'
   subst ev
   exact ⟨rv,⟨V.ref (s.heap.objs.size + 1),H',I3,rfl,q3⟩⟩
  | next=>exact False.elim hq'
  | brk=>exact False.elim hq'
  | cont=>exact False.elim hq'
def j4h (C:Addr) (sp:Sp) (gV:List V → List V → List V) (E:XK) (t tk:TA) : TE:=fun σ H Q=>t σ H fun vs H1=>tk σ H1 fun zs H2=>∀ x dx,H2 x = none → H2 dx = none → dx ≠ x → sp (gV (.ref x :: vs) zs) (upd (upd H2 dx (.own x)) x (.ins C dx [])) (fun v H3=>v = .non ∧ Q (.ref x) H3) E
theorem jzi (M:Mk X.K C f) (F:yf X.prog X.w X.K X.mg X.base CX k f fd ps sp) (hr:jfi (k + 1) X.A) (hg:Gl X x) (hm:X.mg x = some (.ref C)) (hb:jf5 X.K fd ps ks g gV) (hx:Passes CX X E)
  (ha:PA X (e :: es) t) (hkw:PK X kws tk) (hall:(backToKw pos (keywordEach kws X.env)).all (·.1.isSome) = true:=by rfl) (hks:(backToKw pos (keywordEach kws X.env)).filterMap (·.1) = ks:=by rfl)
  (hdb:(x == ("__debug__" : Str)) = false:=by decide) (he:starEach (e :: es) X.env = (false,eval e X.env) :: starEach es X.env:=by rfl)
  (hpl:((backTo pos (starEach (e :: es) X.env)).any (·.1) || (backToKw pos (keywordEach kws X.env)).any (·.1.isNone)) = false:=by rfl) :
  PE X (.Call (.Name x p) (e :: es) kws pos) (j4h C sp gV E t tk):=by
 intro pins s σ H Q I h
 refine wpAny_Call_Name_kw (jhq I hg hm ?_ hdb)
 refine PySem.W.callWith_KW (h₀:=X.base) I.ok.mod.kin M.kp hall (thn (ha pos pins s σ H _ I h) fun us s1 ⟨vs,H1,I1,r,q⟩=>?_) hpl he
 refine thn (hkw pos pins s1 σ H1 _ I1 q) fun ws s2 ⟨zs,H2,I2,rz,q2⟩=>⟨I2.kIn,?_⟩
 rw [hks]
 exact jw0 M F hr hb hx I2 r rz q2
end
section
variable {X:Cx}
end
section
variable {X:Cx} {K:PySem.W.Frag}
theorem jk9 (hK:X.K = K) : OpR X (compareOp .NotIn) (rIn K true):=by
 subst hK
 exact jdp
end
end L2
namespace L2
open PySem PySem.Spec PyProof.Rows
def DK {α : Type} : Sem α → Prop
 | .pure _=>True
 | .raise _=>True
 | .unsupported _=>True
 | .finish _=>True
 | .rule _ k=>DK (k ())
 | .at _ k=>DK (k ())
 | .load _ _ k=>∀ o,DK (k o)
 | .update _ _ f k=>(∀ o:Obj,(f o).dict = o.dict ∧ (o.isFreed = false → (f o).isFreed = false)) ∧ DK (k ())
 | .loadIfAlive _ k=>∀ o,DK (k o)
 | .point _ k=>DK (k ())
 | .register _ _=>True
 | .alloc _ k=>∀ a,DK (k a)
 | .fresh k=>∀ t,DK (k t)
 | .ask k=>∀ x,DK (k x)
 | .handled _ k=>∀ x,DK (k x)
 | .stack k=>∀ x,DK (k x)
 | _=>False
theorem j0r {α β : Type} {f : α → Sem β} (hf : ∀ a,DK (f a)) (m:Sem α) (h:DK m) : DK (m.bind f):=by
 induction m with
 | pure a=>exact hf a
 | raise _=>exact True.intro
 | unsupported _=>exact True.intro
 | finish _=>exact True.intro
 | rule _ k ih=>exact ih () h
 | «at» _ k ih=>exact ih () h
 | load _ _ k ih=>exact fun o=>ih o (h o)
 | update _ _ _ k ih=>exact ⟨h.1,ih () h.2⟩
 | loadIfAlive _ k ih=>exact fun o=>ih o (h o)
 | point _ k ih=>exact ih () h
 | register _ _ _=>exact True.intro
 | alloc _ k ih=>exact fun a=>ih a (h a)
 | fresh k ih=>exact fun a=>ih a (h a)
 | ask k ih=>exact fun a=>ih a (h a)
 | handled _ k ih=>exact fun a=>ih a (h a)
 | stack k ih=>exact fun a=>ih a (h a)
 | choose _ _ _ _=>exact False.elim h
 | os _ _ _ _=>exact False.elim h
 | call _ _ _ _ _ _=>exact False.elim h
 | newGen _ _ _=>exact False.elim h
 | genState _ _ _=>exact False.elim h
 | resume _ _ _ _ _=>exact False.elim h
 | yield _ _ _ _ _=>exact False.elim h
 | fork _ _ _=>exact False.elim h
 | thread _ _=>exact False.elim h
 | await _ _ _ _ _ _=>exact False.elim h
theorem zg {α β : Type} {m:Sem α} {f : α → Sem β} (hm:DK m) (hf : ∀ a,DK (f a)) : DK (m >>= f):=j0r hf m hm
theorem jt3 {a:Addr} : DK (load a):=fun _=>True.intro
theorem jzx {o:Obj} : DK (alloc o):=fun _=>True.intro
theorem jr3:DK stack:=fun _=>True.intro
theorem jsq {a:Addr} {f:Obj → Obj} (h : ∀ o:Obj,(f o).dict = o.dict ∧ (o.isFreed = false → (f o).isFreed = false)) : DK (update a f):=⟨h,True.intro⟩
def KD (h h':Heap) : Prop:=∀ b o,h.get? b = some o → ∃ o',h'.get? b = some o' ∧ o'.dict = o.dict
theorem KD.refl (h:Heap) : KD h h:=fun _ o e=>⟨o,e,rfl⟩
theorem KD.trans {a b c:Heap} (x:KD a b) (y:KD b c) : KD a c:=fun i o e=>by
 obtain ⟨o1,e1,d1⟩:=x i o e
 obtain ⟨o2,e2,d2⟩:=y i o1 e1
 exact ⟨o2,e2,d2.trans d1⟩
theorem KD.push (h:Heap) (o:Obj) : KD h (h.push o):=fun _ o' e=>⟨o',Heap.get?_push_of_some o e,rfl⟩
theorem KD.update {h:Heap} {a:Addr} {f:Obj → Obj} (hf : ∀ o:Obj,(f o).dict = o.dict ∧ (o.isFreed = false → (f o).isFreed = false)) : KD h (h.update a f):=fun b o e=>by
 by_cases z:a = b
 ·subst z
  exact ⟨f o,Heap.get?_update_self f e ((hf o).2 (Heap.get?_some_iff.mp e).2),(hf o).1⟩
 ·exact ⟨o,by rw [Heap.get?_update_other h f z]; exact e,rfl⟩
theorem j5z {α : Type} {M:Model} {Γ : PySem.Ctx} {Q : α → Pos → Shared → Prop} {E:Value → Pos → Shared → Prop} (t:Sem α) (p:Pos) (s:Shared) (d:DK t) (h:Sem.wp M Γ t Q E p s) :
  Sem.wp M Γ t (fun a p' s'=>Q a p' s' ∧ KD s.heap s'.heap) (fun e p' s'=>E e p' s' ∧ KD s.heap s'.heap) p s:=by
 induction t generalizing p s with
 | pure a=>rw [Sem.wp] at h ⊢; exact ⟨h,KD.refl _⟩
 | raise _=>rw [Sem.wp] at h ⊢; exact ⟨h,KD.refl _⟩
 | unsupported _=>rw [Sem.wp] at h; exact h.elim
 | finish _=>rw [Sem.wp] at h; exact h.elim
 | rule _ k ih=>rw [Sem.wp] at h ⊢; exact ih () p s d h
 | «at» p' k ih=>rw [Sem.wp] at h ⊢; exact ih () p' s d h
 | load a x k ih=>
  rw [Sem.wp] at h ⊢
  obtain ⟨o,e,h⟩:=h
  exact ⟨o,e,ih o p s (d o) h⟩
 | update a x f k ih=>
  rw [Sem.wp] at h ⊢
  obtain ⟨e,h⟩:=h
  exact ⟨e,Sem.wp_mono M Γ (k ()) (fun _ _ s' q=>⟨q.1,(KD.update d.1).trans q.2⟩) (fun _ _ s' q=>⟨q.1,(KD.update d.1).trans q.2⟩) p _ (ih () p _ d.2 h)⟩
 | loadIfAlive a k ih=>rw [Sem.wp] at h ⊢; exact ih _ p s (d _) h
 | point _ k ih=>rw [Sem.wp] at h ⊢; exact ih () p s d h
 | register _ _ _=>rw [Sem.wp] at h; exact h.elim
 | alloc o k ih=>
  rw [Sem.wp] at h ⊢
  exact Sem.wp_mono M Γ (k s.heap.objs.size) (fun _ _ s' q=>⟨q.1,(KD.push _ o).trans q.2⟩) (fun _ _ s' q=>⟨q.1,(KD.push _ o).trans q.2⟩) p _ (ih _ p _ (d _) h)
 | fresh k ih=>rw [Sem.wp] at h ⊢; exact ih _ p _ (d _) h
 | ask k ih=>rw [Sem.wp] at h ⊢; exact ih _ p s (d _) h
 | handled own k ih=>rw [Sem.wp] at h ⊢; exact ih _ p s (d _) h
 | stack k ih=>rw [Sem.wp] at h ⊢; exact ih _ p s (d _) h
 | choose _ _ _ _=>exact False.elim d
 | os _ _ _ _=>exact False.elim d
 | call _ _ _ _ _ _=>exact False.elim d
 | newGen _ _ _=>exact False.elim d
 | genState _ _ _=>exact False.elim d
 | resume _ _ _ _ _=>exact False.elim d
 | yield _ _ _ _ _=>exact False.elim d
 | fork _ _ _=>exact False.elim d
 | thread _ _=>exact False.elim d
 | await _ _ _ _ _ _=>exact False.elim d
theorem jln {α : Type} {M:Model} {A:Around} {t:Sem α} {Q : α → Shared → Prop} {E:Value → Shared → Prop} {s:Shared} (d:DK t) (h:wpAny M A t Q E s) : wpAny M A t (fun a s'=>Q a s' ∧ KD s.heap s'.heap) (fun e s'=>E e s' ∧ KD s.heap s'.heap) s:=
 fun Γ p hΓ=>j5z t p s d (h Γ p hΓ)
theorem jul {v:Value} : DK (fieldsOf v):=by
 unfold fieldsOf
 split
 ·refine zg jt3 fun o=>?_
  split <;> exact True.intro
 ·exact True.intro
theorem jn8 {v:Value} {i:Nat} : DK (field v i):=by
 unfold field
 refine zg jul fun vs=>?_
 split <;> exact True.intro
theorem js2 (f:Array Value → Array Value) (o:Obj) : (Obj.mapFields f o).dict = o.dict ∧ (o.isFreed = false → (Obj.mapFields f o).isFreed = false):=by
 obtain ⟨c,d,dt,sl⟩:=o
 cases dt <;> exact ⟨rfl,fun h=>h⟩
theorem jkj {v x:Value} {i:Nat} : DK (setField v i x):=by
 unfold setField
 split
 ·unfold updateField
  refine zg jt3 fun o=>?_
  split
  ·split
   ·exact jsq (js2 _)
   ·exact True.intro
  ·exact True.intro
 ·exact True.intro
theorem jhj {e:Value} {f:Option Addr} : DK (setFlight e f):=by
 unfold setFlight
 refine zg jn8 fun tb=>?_
 split
 ·exact jkj
 ·exact True.intro
theorem jip : ∀ l:List Env,DK (readyFrames l)
 | []=>True.intro
 | env :: outer=>by
  unfold readyFrames
  split
  ·refine zg jt3 fun o=>?_
   split
   ·exact True.intro
   ·refine zg ?_ fun im=>zg ?_ fun back=>zg (jsq fun o=>⟨rfl,fun h=>?_⟩) fun _=>jip outer
    ·unfold behindIsImport
     split
     ·exact True.intro
     ·split
      ·exact True.intro
      ·exact zg jn8 fun _=>True.intro
    ·unfold keptBack
     split
     ·split
      ·exact True.intro
      ·refine zg ?_ fun _=>True.intro
       unfold underTheClaimsCaller
       exact zg jr3 fun _=>True.intro
     ·exact True.intro
    ·obtain ⟨c,d,dt,sl⟩:=o
     cases dt <;> exact h
  ·exact True.intro
theorem jwe {env:Env} : DK (PySem.frameOf env):=by
 unfold PySem.frameOf
 refine zg (zg jr3 fun _=>True.intro) fun es=>zg ?_ fun r=>?_
 ·cases es.dropWhile (·.frame != env.frame) with
  | nil=>exact True.intro
  | cons e r=>
   unfold frameObject
   exact zg (jip _) fun _=>True.intro
 ·split <;> exact True.intro
theorem jsg {ty:String} {vs:List Value} : DK (newFields ty vs):=by
 unfold newFields newObj
 dsimp only
 have rest:DK (newObjAsIs (Value.type ty) (Data.fields vs.toArray)):=by
  unfold newObjAsIs
  exact zg jzx fun _=>True.intro
 split
 ·exact zg True.intro fun _=>rest
 ·exact rest
theorem jq4 {f:Addr} {b:Bool} : DK (entryPlaceOf f b):=by
 unfold entryPlaceOf
 refine zg jr3 fun acts=>?_
 split <;> exact True.intro
theorem jnc {e:Value} {env:Env} : DK (noteFrame e env):=by
 unfold noteFrame
 split
 ·have rest : ∀ {head:Value} {f:Addr},DK (do setField e 1 (← EntryCells.newEntry head (← PySem.frameOf env) .none (rawInt f) .none (← entryPlaceOf f (head != .none)))):=fun {head f}=>
   zg jwe fun a=>zg jq4 fun pl=>zg jsg fun b=>jkj
  refine zg jn8 fun head=>?_
  split
  ·refine zg jn8 fun x=>?_
   split
   ·exact True.intro
   ·exact zg jkj fun _=>rest
  ·exact rest
 ·exact True.intro
theorem jqk {env:Env} {e:Value} : DK (leaving env e):=zg jnc fun _=>jhj
end L2
namespace PySem
section
variable {prog:Program} {w:World} {A:Around} {E:Value → Shared → Prop} {h:Heap} {g:Array GenState} {d:Drawn} {t:Nat} {os:OsState}
variable {nm q:Str} {C N:Addr} {bs bm bmB:List Value} {hdct:Bool} {sn:List Str} {sub:List Value} {ab:Bool} {col:Option Bool} {dd:Option Addr} {k0 k1 k2 k3 k5:Option Value} {B newId initId:String}
theorem jp3 (F:ExcBaseFacts B newId initId bmB) (T:OwnTail h bmB bm) {rest:List Value} {fI:Addr} {oI:Obj} {Q:Fin → Shared → Prop}
  (hC:h.get? C = some (excClassObj nm q C N bs bm hdct sn sub ab col dd k0 k1 k2 k3 k5 newId)) (L:PySem.W.Looks (model prog w) h (typeLookup (.ref C) "__init__") (some (.ref fI))) (hfI:h.get? fI = some oI) (hfc:oI.cls = .type "function") (hrest:rest.length ≤ sizeLine)
  (hq : ∀ h' e,Heap.MadeExcOf h h' e (.ref C) rest → wpAny (model prog w) A (call (.ref fI) (.ref e :: rest)) (fun r s'=>r = .none ∧ Q (.done (.ret (.ref e))) s') E ⟨h',g,d,t,os⟩) :
  wpAny (model prog w) A (Builtin.«type.__call__» ⟨.ref C :: rest,[]⟩) Q E ⟨h,g,d,t,os⟩:=by
 repeat (first | with_reducible refine wpAny_loadPart_at hC ?_ | with_reducible refine wpAny_madeBy_exc hC ?_ | wp_step)
 refine codeAny_call_builtin_code (Code.quiet_builtin _ F.quiet) (wpAny_check_new_subT F T hC (codeAny_exc_new_subT F T hC ?_ hrest))
 show wpAny _ _ _ _ _ _
 have hk : ∀ b o,h.get? b = some o → ((h.push { cls:=.type "tuple",data:=.seq rest.toArray }).push { cls:=.ref C,data:=.fields #[.ref h.objs.size,.none,.none,.none,.bool false,.none] }).get? b = some o:=
  fun b o e=>Heap.get?_push_of_some _ (Heap.get?_push_of_some _ e)
 have hget:((h.push { cls:=.type "tuple",data:=.seq rest.toArray }).push { cls:=.ref C,data:=.fields #[.ref h.objs.size,.none,.none,.none,.bool false,.none] }).get? (h.objs.size + 1) = some
   { cls:=.ref C,data:=.fields #[.ref h.objs.size,.none,.none,.none,.bool false,.none] }:=by heap_get
 have hm:Heap.MadeExcOf h ((h.push { cls:=.type "tuple",data:=.seq rest.toArray }).push { cls:=.ref C,data:=.fields #[.ref h.objs.size,.none,.none,.none,.bool false,.none] }) (h.objs.size + 1) (.ref C) rest:=
  ⟨hk,Heap.get?_none_of_le (Nat.le_succ _),h.objs.size,hget,Heap.get?_none_of_le (Nat.le_refl _),Heap.get?_push_of_some _ (Heap.get?_push_at rfl rfl)⟩
 have hq':=hq _ _ hm
 have hC1:=hk _ _ hC
 have hfI1:=hk _ _ hfI
 have hcC:(Value.ref C :: bm).contains (.ref C) = true:=by simp
 unfold isInstance
 repeat (first | with_reducible refine wpAny_loadPart_at hget ?_ | (with_reducible refine wpAny_isSubtype_exc hC1 ?_; rw [hcC]) | wp_step)
 show wpAny _ _ (typeLookup (.ref C) _) _ _ _
 refine L _ _ _ _ hk (wpAny_holding (wpAny_bind ?_))
 unfold bindSpecial
 refine wpAny_bind (wpAny_typeOf (T := "function") ⟨_,hfI1,hfc⟩ ?_)
 rw [if_pos (by decide)]
 refine wpAny_pure (wpAny_bind (wpAny_mono hq' (fun r s' hr=>?_) fun _ _ x=>x))
 obtain ⟨rfl,hQ⟩:=hr
 wp_walk
 exact hQ
theorem jxi (F:ExcBaseFacts B newId initId bmB) (T:OwnTail h bmB bm) {rest:List Value} {fI:Addr} {oI:Obj} {Q:Value → Shared → Prop}
  (hC:h.get? C = some (excClassObj nm q C N bs bm hdct sn sub ab col dd k0 k1 k2 k3 k5 newId)) (L:PySem.W.Looks (model prog w) h (typeLookup (.ref C) "__init__") (some (.ref fI))) (hfI:h.get? fI = some oI) (hfc:oI.cls = .type "function") (hrest:rest.length ≤ sizeLine)
  (hq : ∀ h' e,Heap.MadeExcOf h h' e (.ref C) rest →
   wpAny (model prog w) (A.under (.builtin "type.__call__" ⟨.ref C :: rest,[]⟩)) (call (.ref fI) (.ref e :: rest)) (fun r s'=>r = .none ∧ Q (.ref e) s') E ⟨h',g,d,t,os⟩) :
  wpAny (model prog w) A (call (.ref C) rest) Q E ⟨h,g,d,t,os⟩:=by
 have f1:=tc_lookup
 have f2:=tc_bind (.ref C)
 have hT:(⟨h,g,d,t,os⟩ : Shared).TypeIs (.ref C) "type" := ⟨_,hC,rfl⟩
 refine wpAny_call (codeAny_of_tree ?_)
 show wpAny _ _ (callAny (.ref C) _) _ _ _
 repeat (any_goals (first | assumption | with_reducible refine wpAny_loadPart_at hC ?_ | wp_step))
 refine ⟨rfl,?_⟩
 exact codeAny_call_builtin_at (Code.quiet_builtin _ (by decide +kernel)) entry_typeCall (wpAny_check_type_call_sub hC (jp3 F T hC L hfI hfc hrest fun h' e hm=>hq h' e hm))
theorem jv9 {s:Shared} {env:Env} {x:Sem Value} {Q:Flow → Shared → Prop} (hbase:bm.contains (.type "BaseException") = true) (hh:A.handled = none)
  (hx:wpAny (model prog w) A x (fun v s1=>∃ e oe t,v = .ref e ∧ s1.heap.get? C = some (excClassObj nm q C N bs bm hdct sn sub ab col dd k0 k1 k2 k3 k5 newId) ∧ s1.heap.get? e = some oe ∧ oe.cls = .ref C ∧ oe.data = .fields #[.ref t,.none,.none,.none,.bool false,.none] ∧ E (.ref e) s1) E s) :
  wpAny (model prog w) A (raiseStmt env (some x) none) Q E s:=by
 have hcB:(Value.ref C :: bm).contains (.type "BaseException") = true:=by rw [List.contains_cons,hbase,Bool.or_true]
 unfold raiseStmt
 refine wpAny_bind (wpAny_mono hx (fun v s1 q1=>?_) fun _ _ z=>z)
 obtain ⟨e,oe,t,rfl,hC,he,hc,hd,hE⟩:=q1
 obtain ⟨hp,g,dr,tk,os⟩:=s1
 obtain ⟨c0,di,da,sl⟩:=oe
 dsimp only at hc hd
 subst hc hd
 repeat (first | with_reducible refine wpAny_loadPart_at he ?_ | with_reducible refine wpAny_loadPart_at hC ?_ | (with_reducible refine wpAny_isSubtype_exc hC ?_; rw [hcB]) | wp_step)
 exact wpAny_raiseNew_none hh hE
end
end PySem
namespace PySem
open Builtin Builtin.ObjectAttr
abbrev j5m:List Value:=[.type "ValueError",.type "Exception",.type "BaseException",.type "object"]
section
variable {prog:Program} {w:World} {A:Around} {E:Value → Shared → Prop} {h:Heap} {g:Array GenState} {d:Drawn} {t:Nat} {os:OsState}
variable {nm q:Str} {C N x:Addr} {bs bm:List Value} {hdct:Bool} {sn:List Str} {sub:List Value} {ab:Bool} {col:Option Bool} {dd:Option Addr} {k0 k1 k2 k3 k5:Option Value} {newId:String} {name:Str} {v:Value} {o:Obj}
theorem j38 {M:Model} {α : Type} {p:Sem α} {r : α} {Q : α → Shared → Prop} (L:PySem.W.Looks M h p r) (hq:Q r ⟨h,g,d,t,os⟩) : wpAny M A p Q E ⟨h,g,d,t,os⟩:=L _ _ _ _ (fun _ _ e=>e) hq
theorem jun {self:Value} (T:OwnTail h j5m bm) : refuseLoop self "__setattr__" bm = pure ():=by
 induction T with
 | base=>exact F.store_ValueError.passes self
 | own _ _ _ _ ih=>rw [refuseLoop_ref]; exact ih
theorem jpe {tk:Tok} {Q:Fin → Shared → Prop} (T:OwnTail h j5m bm) (hC:h.get? C = some (excClassObj nm q C N bs bm true sn sub ab col dd k0 k1 k2 k3 k5 newId)) (Ln:PySem.W.Looks (model prog w) h (typeLookup (.ref C) name) none)
  (hx:h.get? x = some o) (hc:o.cls = .ref C) (hnc : ∀ c,o.data ≠ .cls c) (hdn:o.dict = none)
  (hq : ∀ h' tk' dx,h.get? dx = none → dx ≠ x → h'.get? x = some { o with dict:=some dx } → h'.Ns1 dx (fun y=>if y = name then some v else none) → (∀ b ob,b ≠ x → h.get? b = some ob → h'.get? b = some ob) → Q (.done (.ret .none)) ⟨h',g,d,tk',os⟩) :
  wpAny (model prog w) A (Builtin.«object.__setattr__» ⟨[.ref x,.str name tk,v],[]⟩) Q E ⟨h,g,d,t,os⟩:=by
 have hpass:=jun (self:=.ref x) T
 unfold Builtin.«object.__setattr__»
 repeat (first | rw [refuse_eq] | (rw [refuseLoop_ref,hpass]) | (with_reducible refine wpAny_loadPart_at hx ?_; rw [hc]) | with_reducible refine wpAny_mroOf_exc hC ?_ | with_reducible refine j38 Ln ?_ | wp_step)
 rw [hdn,if_neg (by simp [typeHasDict])]
 split
 ·rename_i hcd
  cases hcd
 split
 ·rename_i c hcd
  exact absurd hcd (hnc c)
 have hx1:(h.push { cls:=.type "dict",data:=.dict #[] }).get? x = some o:=Heap.get?_push_of_some _ hx
 have hxs:x ≠ h.objs.size:=Nat.ne_of_lt (Heap.lt_size hx)
 refine wpAny_bind (wpAny_alloc' (wpAny_bind (wpAny_update' hx1 (wpAny_pure ?_))))
 have hgd:((h.push { cls:=.type "dict",data:=.dict #[] }).update x fun o=>{ cls:=o.cls,dict:=some h.objs.size,data:=o.data,slots:=o.slots }).get? h.objs.size = some { cls:=.type "dict",data:=.dict #[] }:=
  (Heap.get?_update_ne _ _ _ _ hxs.symm).trans (Heap.get?_push_at rfl rfl)
 show wpAny _ _ (storeInDict h.objs.size (.str name tk) name v) _ _ _
 unfold storeInDict newKeyGuard
 refine wpAny_bind (wpAny_pure (wpAny_bind (wpAny_nsSet1 (Heap.Ns1.of_empty ⟨_,#[],_,hgd,rfl,fun e he=>absurd he (by simp),fun _=>rfl⟩) fun h' hn' hs=>?_)))
 obtain ⟨oD,esD,epD,hoD,hdD,hcD⟩:=hn'.count (Within.cons name v Within.nil)
 refine wpAny_bind (wpAny_lookBehind hoD (by rw [hdD]; exact pastItsLine_dict (Nat.le_trans hcD (by rw [List.length_cons,List.length_nil,sizeLine_eq]; omega))) ?_)
 wp_walk
 refine hq h' _ h.objs.size (Heap.get?_none_of_le (Nat.le_refl _)) hxs.symm ?_ hn' fun b ob hbx hb=>(hs.2 b (Nat.ne_of_lt (Heap.lt_size hb))).trans ((Heap.get?_update_ne _ _ _ _ hbx).trans (Heap.get?_push_of_some _ hb))
 refine (hs.2 x hxs).trans (Heap.get?_update_self _ hx1 ?_)
 have hfr:=(Heap.get?_some_iff.mp hx).2
 obtain ⟨oc,od,odt,osl⟩:=o
 cases odt <;> first | rfl | exact hfr
theorem jx4 {M:Model} {nameV:Value} {Q:Unit → Shared → Prop} (T:OwnTail h j5m bm) (hC:h.get? C = some (excClassObj nm q C N bs bm hdct sn sub ab col dd k0 k1 k2 k3 k5 newId)) (hx:h.get? x = some o) (hc:o.cls = .ref C) (hq:Q () ⟨h,g,d,t,os⟩) :
  wpAny M A (checkBuiltinCall "object.__setattr__" ⟨[.ref x,nameV,v],[]⟩) Q E ⟨h,g,d,t,os⟩:=by
 have hcB:(Value.ref C :: bm).contains (.type "object") = true:=by rw [List.contains_cons,T.hasType F.store_ValueError.hasOwner,Bool.or_true]
 have ha:=F.store_ValueError.args (.ref x) nameV v
 simp only [checkBuiltinCall,F.store_ValueError.kind,F.store_ValueError.split]
 refine wpAny_bind ?_
 unfold isInstance
 repeat (first | (with_reducible refine wpAny_loadPart_at hx ?_; rw [hc]) | (with_reducible refine wpAny_isSubtype_exc hC ?_; rw [hcB]) | wp_step)
 exact hq
theorem jxk {Q:Unit → Shared → Prop} (T:OwnTail h j5m bm) (hC:h.get? C = some (excClassObj nm q C N bs bm true sn sub ab col dd k0 k1 k2 k3 k5 newId)) (Ls:PySem.W.Looks (model prog w) h (typeLookup (.ref C) "__setattr__") (some (.builtin "object.__setattr__"))) (Ln:PySem.W.Looks (model prog w) h (typeLookup (.ref C) name) none)
  (hx:h.get? x = some o) (hc:o.cls = .ref C) (hnc : ∀ c,o.data ≠ .cls c) (hdn:o.dict = none)
  (hq : ∀ h' tk' dx,h.get? dx = none → dx ≠ x → h'.get? x = some { o with dict:=some dx } → h'.Ns1 dx (fun y=>if y = name then some v else none) → (∀ b ob,b ≠ x → h.get? b = some ob → h'.get? b = some ob) → Q () ⟨h',g,d,tk',os⟩) :
  wpAny (model prog w) A (setAttr (.ref x) name v) Q E ⟨h,g,d,t,os⟩:=by
 have f3:=F.store_ValueError.slot.bind (.ref x)
 unfold setAttr callSpecial? specialOf
 repeat (any_goals (first | assumption | (with_reducible refine wpAny_loadPart_at hx ?_; rw [hc]) | with_reducible refine j38 Ls ?_ | wp_step))
 refine codeAny_call_builtin F.store_ValueError.slot.plain F.store_ValueError.entry (jx4 T hC hx hc (jpe T hC Ln hx hc hnc hdn fun h' tk' dx a1 a2 a3 a4 a5=>?_))
 repeat (any_goals (first | assumption | wp_step))
 exact hq h' tk' dx a1 a2 a3 a4 a5
end
end PySem
namespace L2
open PySem PySem.Spec PyProof.Rows
def ju3 (K:PySem.W.Frag) (C f:Addr) : Bool:=(match K.lookup f with
 | some o=>o.cls == .type "function"
 | none=>false) && match K.lookup C with
 | some ⟨.type "type",_,.cls cd,sl⟩=>(match cd.mro,sl.toList with
  | .ref C' :: bm,[_,_,_,_,some (.builtin n),_]=>C' == C && n == "ValueError.__new__" && !cd.hasDel && cd.hasDict && PySem.W.tailIn K j4q bm
  | _,_=>false)
 | _=>false
theorem jru {K:PySem.W.Frag} {h:Heap} {C f:Addr} (X:K.In h) (q:ju3 K C f = true) :
  (∃ oI,h.get? f = some oI ∧ oI.cls = .type "function") ∧ ∃ bm N nm qn bs sn sub ab col dd k0 k1 k2 k3 k5,h.get? C = some (excClassObj nm qn C N bs bm true sn sub ab col dd k0 k1 k2 k3 k5 "ValueError.__new__") ∧ OwnTail h j4q bm:=by
 unfold ju3 at q
 rw [Bool.and_eq_true] at q
 obtain ⟨q0,q⟩:=q
 refine ⟨?_,?_⟩
 ·split at q0
  ·rename_i o ho
   exact ⟨o,X _ _ ho,beq_iff_eq.mp q0⟩
  ·cases q0
 split at q
 ·rename_i dd cd sl ho
  split at q
  ·rename_i C' bm k0 k1 k2 k3 n k5 hm hs
   simp only [Bool.and_eq_true,beq_iff_eq,Bool.not_eq_true'] at q
   obtain ⟨⟨⟨⟨rfl,rfl⟩,hdel⟩,hdc⟩,ht⟩:=q
   obtain ⟨nm,bs,mro,ns,qn,hd,sn,sub,ab,col,del⟩:=cd
   dsimp only at hm hdel hdc
   subst hm hdel hdc
   have hsl:sl = #[k0,k1,k2,k3,some (.builtin "ValueError.__new__"),k5]:=by
    obtain ⟨l⟩:=sl
    simp only at hs
    rw [hs]
   subst hsl
   exact ⟨bm,ns,nm,qn,bs,sn,sub,ab,col,dd,k0,k1,k2,k3,k5,X _ _ ho,PySem.W.tail_of_in X ht⟩
  ·cases q
 ·cases q
structure jz9 (K:PySem.W.Frag) (C f:Addr) (x:Str) : Prop where
 cls:ju3 K C f = true
 ini:PySem.W.findIn K (.ref C) "__init__" = some (some (.ref f))
 sa:PySem.W.findIn K (.ref C) "__setattr__" = some (some (.builtin "object.__setattr__"))
 ga:PySem.W.findIn K (.ref C) "__getattribute__" = some (some (.builtin "BaseException.__getattribute__"))
 gn:PySem.W.findIn K (.ref C) "__getattr__" = some none
 no:PySem.W.findIn K (.ref C) x = some none
def jso (ea C:Addr) : HO:=.ext fun h=>∃ t sl,h.get? ea = some ⟨.ref C,none,.fields #[.ref t,.none,.none,.none,.bool false,.none],sl⟩
def jpn (ea C d:Addr) : HO:=.ext fun h=>∃ t sl,h.get? ea = some ⟨.ref C,some d,.fields #[.ref t,.none,.none,.none,.bool false,.none],sl⟩
section
variable {X:Cx} {pins:List (Addr × Obj)} {σ : St} {H:Hp} {s:Shared}
theorem Inv.j4m (I:Inv X pins σ H s) (hex:X.ex = []) {b:Addr} (e:s.heap.get? b = none) : X.s₀.heap.get? b = none:=by
 cases q:X.s₀.heap.get? b with
 | none=>rfl
 | some o=>
  have base:=I.base
  rw [hex] at base
  obtain ⟨o1,e1⟩:=base.there b o q (by simp)
  rw [e] at e1
  cases e1
def j6o (C:Addr) (ta tv:TE) (f:Str) : TS:=fun D σ H=>tv σ H fun y H1=>ta σ H1 fun x H2=>∃ a,x = .ref a ∧ H2 a = some (jso a C) ∧ ∀ d,H2 d = none → D.nx σ (upd (upd H2 a (jpn a C d)) d (.xd [(f,y)]))
theorem j2t {C fi:Addr} {o value:Expr} {f:Str} {pos pos':Pos} {ta tv:TE} (hI:jz9 X.K C fi f) (hex:X.ex = []) (ha:PE X o ta) (hv:PE X value tv) (hs:swapsWith value (some (.Attribute o f pos')) pos.line X.env = pure false) :
  PS X (.Assign [.Attribute o f pos'] value pos) (j6o C ta tv f):=by
 intro pins s σ H D I h
 refine plainObj_wpAny_Assign_Attribute (thn (hv pins s σ H _ I h) fun u s1 ⟨y,H1,I1,ry,q⟩=>thn (ha pins s1 σ H1 _ I1 q) fun ov s2 ⟨x,H2,I2,rx,a,ex,ea,q2⟩=>?_) hs
 subst ex
 obtain rfl:ov = Value.ref a:=rx
 obtain ⟨⟨t,sl,hx⟩,_,_⟩:=I2.hok a _ ea
 obtain ⟨_,bm,N,nm,qn,bs,sn,sub,ab,col,dd,k0,k1,k2,k3,k5,hC,T⟩:=jru I2.kIn hI.cls
 obtain ⟨hp,g,dr,tk,os⟩:=s2
 refine jxk T hC (PySem.W.looks_findIn I2.kIn hI.sa) (PySem.W.looks_findIn I2.kIn hI.no) hx rfl (fun c z=>by cases z) rfl fun h' tk' d n1 n2 e1 e2 kp=>?_
 have hd0:H2 d = none:=by
  cases z:H2 d with
  | none=>rfl
  | some u=>
   obtain ⟨o',e'⟩:=(I2.hok d u z).there
   rw [show hp.get? d = none from n1] at e'
   cases e'
 have I3:Inv X pins σ (upd H2 a (jpn a C d)) ⟨h',g,dr,tk',os⟩:=by
  refine I2.write (x:=a) (e:=a) (h':=h') (t':=tk') (by rw [ea]; exact True.intro) (.inl rfl) (fun b u hb e=>kp b u hb e) ⟨_,e1⟩ ⟨⟨t,sl,e1⟩,⟨_,e1⟩,fun h1 h2 p k=>?_⟩
  obtain ⟨t',sl',e'⟩:=p
  exact ⟨t',sl',k _ e'⟩
 have hd1:hp.get? d = none:=n1
 have ne0 : ∀ b o,hp.get? b = some o → b ≠ d:=fun b o e z=>by rw [z,hd1] at e; cases e
 have I4:Inv X pins σ (upd (upd H2 a (jpn a C d)) d (.xd [(f,y)])) ⟨h',g,dr,tk',os⟩:=by
  refine I3.j2v hex (by rw [je n2]; exact hd0) (I2.j4m hex hd1) ?_ (fun z c e=>?_) (fun p hp'=>?_) ⟨_,e2,fun z=>?_⟩
  ·obtain ⟨m,⟨o',_,_,ho',_⟩,_⟩:=I2.loc
   exact (ne0 _ _ ho').symm
  ·obtain ⟨v',o',ho',_⟩:=I2.cell z c e
   exact ne0 _ _ ho'
  ·exact ne0 _ _ (I2.pin p hp').1
  ·rw [List.lookup_cons]
   by_cases hz:z = f
   ·subst hz
    simp only [beq_self_eq_true,if_true]
    exact ry
   ·have:(z == f) = false:=by simpa using hz
    rw [this,if_neg hz]
    exact True.intro
 exact ⟨σ,_,I4,q2 d hd0⟩
theorem Inv.drop {a:Addr} {φ : Heap → Prop} (I:Inv X pins σ H s) (ha:H a = some (.ext φ)) : Inv X pins σ (fun b=>if b = a then none else H b) s:=by
  have ne : ∀ {b:Addr} {u:HO},H b = some u → (∀ ψ,u ≠ .ext ψ) → b ≠ a:=fun {b u} e h z=>by
    subst z
    rw [ha] at e
    exact h _ (Option.some.inj e).symm
  have at_ : ∀ {b:Addr},b ≠ a → (fun b=>if b = a then none else H b) b = H b:=fun h=>if_neg h
  have nn : ∀ {b:Addr},H b = none → (fun b=>if b = a then none else H b) b = none:=fun {b} h=>by
    by_cases z:b = a
    · exact if_pos z
    · exact (if_neg z).trans h
  refine ⟨I.ok,I.os,I.bare,⟨I.base.keep,I.base.slot,fun b ob e n hx=>nn (I.base.free b ob e n hx),I.base.there,fun b xs q=>?_,fun b ob v q=>?_,fun b ps q=>?_⟩,I.loc,I.cell,nn I.free,fun x c e=>nn (I.jfe x c e),fun p hp=>?_,fun b v e=>?_,I.len⟩
  · have q':=I.base.jr7 b xs q
    exact (at_ (ne q' fun _ z=>nomatch z)).trans q'
  · have q':=I.base.jrz b ob v q
    exact (at_ (ne q' fun _ z=>nomatch z)).trans q'
  · obtain ⟨more,z⟩:=I.base.jsi b ps q
    exact ⟨more,(at_ (ne z fun _ z=>nomatch z)).trans z⟩
  · obtain ⟨q1,q2,q3⟩:=I.pin p hp
    exact ⟨q1,nn q2,q3⟩
  · by_cases z:b = a
    · have e':(if b = a then none else H b) = some v:=e
      rw [if_pos z] at e'
      cases e'
    · have e':H b = some v:=(at_ z).symm.trans e
      exact (I.hok b v e').jpx (fun _ _ _ q=>q) (fun c q=>(at_ (ne q fun _ z=>nomatch z)).trans q) fun c xs q=>(at_ (ne q fun _ z=>nomatch z)).trans q
end
def CX2 (P:Program) (w:World) : CXT:=fun l H s E e s'=>∃ ea cls dd H',e = .ref ea ∧ Fly P w l H H' s s' ea cls ∧ (∃ oe,s'.heap.get? ea = some oe ∧ oe.dict = dd) ∧ E cls dd H'
section
variable {P:Program} {w:World} {K:PySem.W.Frag} {mg:Str → Option Value} {base:Heap} {N:List Str} {qual:Str} {scope:Scope} {f:Addr} {cd:Value} {A:Around} {outer:List Env} {s:Shared} {H:Hp} {E:XK}
theorem j6f:Passes (CX2 P w) (js8 (CX2 P w) P w K mg base N qual scope f cd A outer s H E) E:=by
 intro pins σ H1 s1 e s' I h
 obtain ⟨ea,cls,dd,H',rfl,F,⟨oe,he,hdd⟩,q⟩:=h
 obtain ⟨B,t,hf,k1,k2⟩:=F.fly
 show wpAny (model P w) (A.deeper (envOfC qual scope s.heap.objs.size f cd)) (leaving (envOfC qual scope s.heap.objs.size f cd) (.ref ea)) _ _ s'
 refine wpAny_mono (jln jqk (wpAny_leaves_onW (E:=fun _ _=>False) (Q:=fun _ s''=>∃ h',s'' = { s' with heap:=h' } ∧ Heap.FlyingW B outer ea cls (.ref t) h' ∧ s'.heap.UpToSlots h') I.ok.frames (L:=s.heap.objs.size) rfl hf fun h' hf' hu=>⟨h',rfl,hf',hu⟩))
  (fun _ s'' ⟨⟨h',e1,hf',hu⟩,kd⟩=>?_) (fun _ _ c=>c.1.elim)
 subst e1
 obtain ⟨o2,e2,d2⟩:=kd ea oe he
 exact ⟨ea,cls,dd,H',rfl,j5d I rfl F hf' hu k1 k2,⟨o2,e2,d2.trans hdd⟩,q⟩
theorem j1q {pins:List (Addr × Obj)} {σ : St} {H1:Hp} {s1:Shared} {ea t:Addr} {oe:Obj} (I:Inv (js8 (CX2 P w) P w K mg base N qual scope f cd A outer s H E) pins σ H1 s1) (he:s1.heap.get? ea = some oe)
    (hd:oe.data = .fields #[.ref t,.none,.none,.none,.bool false,.none]) (new:s.heap.get? ea = none) (hn:H1 ea = none) (q:E oe.cls oe.dict H1) : (js8 (CX2 P w) P w K mg base N qual scope f cd A outer s H E).xe (.ref ea) s1:=by
  have noE : ∀ b:Addr,b ∉ ([] : List Addr):=fun b=>by simp
  have ib:Un (frs outer) [] H H1 s.heap s1.heap:=I.base
  obtain ⟨stk,estk⟩ : ∃ stk,stk = envOfC qual scope s.heap.objs.size f cd :: outer:=⟨_,rfl⟩
  have hin : ∀ env ∈ stk,∀ b,env.frame = some b → b ∈ ea :: frs stk:=fun env he b hb=>List.mem_cons_of_mem _ (List.mem_filterMap.mpr ⟨env,he,hb⟩)
  have hideg : ∀ b o,s1.heap.get? b = some o → b ≠ ea → b ∉ frs stk → (PySem.W.hideAll s1.heap (ea :: frs stk)).get? b = some o:=fun b o e h1 h2=>PySem.W.hideAll_get _ e fun z=>(List.mem_cons.mp z).elim h1 h2
  have jp2 : ∀ b o,s.heap.get? b = some o → b ∉ frs outer → b ∉ frs stk:=fun b o e hb=>by rw [estk]; exact I.jp2 e hb
  have neS : ∀ b o,s.heap.get? b = some o → b ≠ ea:=fun b o e z=>by rw [z,new] at e; cases e
  have neH : ∀ b u,H1 b = some u → b ≠ ea:=fun b u e z=>by rw [z,hn] at e; cases e
  have trk : ∀ b u,H1 b = some u → b ∉ frs stk:=fun b u e z=>by
    rw [estk] at z
    have:=I.jr0 b z
    rw [e] at this
    cases this
  have IS:s1.heap.FunFrames (PySem.W.hideAll s1.heap (ea :: frs stk)) (envOfC qual scope s.heap.objs.size f cd :: outer):=by
    rw [estk]
    exact PySem.W.funFrames_hide I.stack (by rw [estk] at hin; exact hin)
  show wpAny (model P w) (A.deeper (envOfC qual scope s.heap.objs.size f cd)) (leaving (envOfC qual scope s.heap.objs.size f cd) (.ref ea)) _ _ s1
  refine wpAny_mono (jln jqk (wpAny_leaving_firstW (E:=fun _ _=>False) (base:=PySem.W.hideAll s1.heap (ea :: frs stk)) (a0:=.ref t) (Q:=fun _ s''=>∃ h',s'' = { s1 with heap:=h' } ∧ Heap.LeftW (PySem.W.hideAll s1.heap (ea :: frs stk)) (envOfC qual scope s.heap.objs.size f cd :: outer) ea oe.cls (.ref t) s1.heap h')
    I.ok.frames IS rfl he (fun b o q=>PySem.W.of_hideAll _ q) (PySem.W.hideAll_none _ (by simp)) hd rfl rfl fun h' hL=>⟨h',rfl,hL⟩)) (fun _ s'' ⟨⟨h',e1,hL⟩,kd⟩=>?_) (fun _ _ c=>c.1.elim)
  subst e1
  obtain ⟨o2,e2,d2⟩:=kd ea oe he
  obtain ⟨x1,⟨_,_,x2⟩,x3,x4⟩:=hL
  have jpx : ∀ b o,s1.heap.get? b = some o → b ≠ ea → b ∉ frs stk → h'.get? b = some o:=fun b o e h1 h2=>x1 _ _ (hideg b o e h1 h2)
  have slots : ∀ b o,s.heap.get? b = some o → H b = none → b ∈ frs outer → ∃ sl,h'.get? b = some { o with slots:=sl }:=fun b o e n hb=>by
    obtain ⟨sl,e1⟩:=ib.slot b o e n hb (noE b)
    obtain ⟨_,o3,e3,nf⟩:=I.ok.jt1.mem hb
    have e3':s.heap.get? b = some o3:=e3
    rw [e] at e3'
    cases e3'
    obtain ⟨sl3,e4⟩:=x4 b _ e1 nf
    exact ⟨sl3,e4⟩
  refine ⟨ea,oe.cls,oe.dict,H1,rfl,⟨I.os,I.bare,⟨fun b o e n hb _=>?_,fun b o e n hb _=>slots b o e n hb,fun b o e n _=>ib.free b o e n (noE b),fun b o e _=>?_,ib.jr7,ib.jrz,ib.jsi⟩,fun b u e=>?_,⟨PySem.W.hideAll s1.heap (ea :: frs stk),t,⟨x1,PySem.W.hideAll_none _ (by simp),x2,x3⟩,fun b o o' e e' hb=>?_,fun b u o' q e'=>?_⟩,new⟩,⟨o2,e2,d2⟩,q⟩
  · exact jpx b o (ib.keep b o e n hb (noE b)) (neS b o e) (jp2 b o e hb)
  · by_cases hb:b ∈ frs outer
    · obtain ⟨sl,q⟩:=slots b o e (I.ok.frf b hb) hb
      exact ⟨_,q⟩
    · obtain ⟨o1,e1⟩:=ib.there b o e (noE b)
      exact ⟨o1,jpx b o1 e1 (neS b o e) (jp2 b o e hb)⟩
  · refine (I.hok b u e).jpx (fun c v hc q=>?_) (fun _ q=>q) fun _ _ q=>q
    rcases hc with z | z
    · subst z
      exact jpx _ _ q (neH _ _ e) (trk _ _ e)
    · exact jpx _ _ q (neH _ _ z) (trk _ _ z)
  · obtain ⟨o1,e1⟩:=ib.there b o e (noE b)
    have z:=jpx b o1 e1 (neS b o e) (jp2 b o e hb)
    have e2:h'.get? b = some o':=e'
    rw [z] at e2
    cases e2
    exact hideg b _ e1 (neS b o e) (jp2 b o e hb)
  · obtain ⟨o1,e1⟩:=(I.hok b u q).there
    have z:=jpx b o1 e1 (neH _ _ q) (trk _ _ q)
    have e2:h'.get? b = some o':=e'
    rw [z] at e2
    cases e2
    exact hideg b _ e1 (neH _ _ q) (trk _ _ q)
end
end L2
namespace L2
open PySem PySem.Spec PyProof.Rows
section
variable {P:Program} {w:World} {K:PySem.W.Frag} {mg:Str → Option Value} {base:Heap}
theorem Fun.okY {x qual:Str} {st:Stmt} {f:Addr} {fd:FuncData} {N ps:List Str} {k:Nat} {sp:Sp} (F:Fun K x qual st f fd) (S:jo N ps (jh st)) (len : ∀ vs H Q E,sp vs H Q E → vs.length = ps.length)
  (hbody : ∀ (cdv:Value) (A:Around) (outer:List Env) (s:Shared) (H:Hp) (vs:List V) (Q:VK) (E:XK),jfi k (A.deeper (envOfC qual (jh st) s.heap.objs.size f cdv)) → sp vs H Q E →
   ∃ t,PSs (js8 (CX2 P w) P w K mg base N qual (jh st) f cdv A outer s H E) (jha st) t ∧ t { nx:=fun _ H'=>Q .non H',rt:=Q } (start N vs) H) : yf P w K mg base (CX2 P w) (k + 1) f fd ps sp:=by
 obtain ⟨oc,od,kV,doc,pm,an,cdv,ct,osl,rfl,lk,hcd⟩:=F.ex
 exact j40 lk hcd S len fun A outer s H vs Q E hr hsp=>hbody cdv A outer s H vs Q E hr hsp
theorem Inv.j1r {X:Cx} {pins:List (Addr × Obj)} {σ : St} {H:Hp} {s:Shared} (I:Inv X pins σ H s) {a:Addr} (e:s.heap.get? a = none) : H a = none:=by
 cases z:H a with
 | none=>rfl
 | some u=>
  obtain ⟨o,q⟩:=(I.hok a u z).there
  rw [e] at q
  cases q
theorem jtd {N:List Str} {qual:Str} {scope:Scope} {f:Addr} {cd:Value} {A:Around} {outer:List Env} {s:Shared} {H:Hp} {E:XK} {x:Str} {C:Addr} {e:Expr} {es:List Expr} {t:TA} {np cpos pos:Pos}
  (hg:Gl (js8 (CX2 P w) P w K mg base N qual scope f cd A outer s H E) x) (hm:mg x = some (.ref C)) (hC:j5p K C) (ha:PA (js8 (CX2 P w) P w K mg base N qual scope f cd A outer s H E) (e :: es) t)
  (hdb:(x == ("__debug__" : Str)) = false:=by decide) (he:starEach (e :: es) (envOfC qual scope s.heap.objs.size f cd) = (false,eval e (envOfC qual scope s.heap.objs.size f cd)) :: starEach es (envOfC qual scope s.heap.objs.size f cd):=by rfl)
  (hpl:(backTo cpos (starEach es (envOfC qual scope s.heap.objs.size f cd))).any (·.1) = false:=by rfl) :
  PS (js8 (CX2 P w) P w K mg base N qual scope f cd A outer s H E) (.Raise (some (.Call (.Name x np) (e :: es) [] cpos)) none pos) (j03 (E (.ref C) none) t):=
 j0d rfl hg hm hC ha (fun {pins σ H1 s1 ea vs h1} I hx q=>by
  obtain ⟨t,h2,_,_⟩:=hx.there
  exact j1q (I.kept (t':=s1.toks) hx.keeps) h2 rfl (I.j4m rfl hx.new) (I.j1r hx.new) q) hdb he hpl
end
def jyc (C:Addr) (sp:Sp) (W:Option Addr → Hp → Prop) (t:TA) : TS:=fun _ σ H=>t σ H fun vs H1=>vs.length ≤ sizeLine ∧
 ∀ ea,H1 ea = none → sp (.ref ea :: vs) (upd H1 ea (jso ea C)) (fun v H2=>v = .non ∧ ∃ d,H2 ea = some (jpn ea C d) ∧ W (some d) (fun b=>if b = ea then none else H2 b)) E0
section
variable {X:Cx}
theorem jyb {k:Nat} {fI C:Addr} {fd:FuncData} {ps:List Str} {sp:Sp} {fld x:Str} {e:Expr} {es:List Expr} {t:TA} {np cpos pos:Pos} {W:Option Addr → Hp → Prop} (hc:X.calm = true) (hex:X.ex = []) (hg:Gl X x) (hm:X.mg x = some (.ref C))
  (hI:jz9 X.K C fI fld) (Fn:yf X.prog X.w X.K X.mg X.base CX0 k fI fd ps sp) (hr:jfi (k + 1) X.A) (hb:Binds X.K fd ps []) (ha:PA X (e :: es) t)
  (hxe : ∀ {pins:List (Addr × Obj)} {σ : St} {H:Hp} {s:Shared} {ea t:Addr} {oe:Obj},Inv X pins σ H s → s.heap.get? ea = some oe → oe.data = .fields #[.ref t,.none,.none,.none,.bool false,.none] → X.s₀.heap.get? ea = none → H ea = none → oe.cls = .ref C → W oe.dict H → X.xe (.ref ea) s)
  (hdb:(x == ("__debug__" : Str)) = false:=by decide) (he:starEach (e :: es) X.env = (false,eval e X.env) :: starEach es X.env:=by rfl) (hpl:(backTo cpos (starEach es X.env)).any (·.1) = false:=by rfl) :
  PS X (.Raise (some (.Call (.Name x np) (e :: es) [] cpos)) none pos) (jyc C sp W t):=by
 intro pins s σ H D I h
 have FB:=F.excBase_ValueError
 obtain ⟨_,bm,N,nm,qn,bs,sn,sub,ab,col,dd,k0,k1,k2,k3,k5,hC0,T0⟩:=jru I.mod.kin hI.cls
 have hpl':((backTo cpos (starEach (e :: es) X.env)).any fun x=>x.fst) = false:=by rw [he]; show (false || (backTo cpos (starEach es X.env)).any (·.1)) = false; rw [hpl]; rfl
 rw [arm_exec_Raise]
 refine wpAny_bind (wpAny_standAt ?_)
 refine jv9 (C:=C) (nm:=nm) (q:=qn) (N:=N) (bs:=bs) (bm:=bm) (hdct:=true) (sn:=sn) (sub:=sub) (ab:=ab) (col:=col) (dd:=dd) (k0:=k0) (k1:=k1) (k2:=k2) (k3:=k3) (k5:=k5) (newId := "ValueError.__new__")
  (T0.hasType FB.hasBase) (I.ok.hd hc) (wpAny_bind (wpAny_mono (wpAny_Call_ofName (jhq I hg hm ?_ hdb)) (fun v s3 h3=>wpAny_bind (wpAny_standAt (wpAny_pure h3))) fun _ _ x=>x))
 have h1:wpAny (model X.prog X.w) X.A (evalArgs (.ref C) true (backTo cpos (starEach (e :: es) X.env)) []) (fun a s2=>∃ us vs H2,a = ⟨us,[]⟩ ∧ Inv X pins σ H2 s2 ∧ Vals vs us ∧ vs.length ≤ sizeLine ∧
   ∀ ea,H2 ea = none → sp (.ref ea :: vs) (upd H2 ea (jso ea C)) (fun v H3=>v = .non ∧ ∃ d,H3 ea = some (jpn ea C d) ∧ W (some d) (fun b=>if b = ea then none else H3 b)) E0) X.xe s:=by
  have hA:=ha cpos pins s σ H _ I h
  rw [he] at hA ⊢
  exact Calls.evalArgs_plain (thn hA fun us s2 ⟨vs,H2,I2,r2,hz,q2⟩=>⟨us,vs,H2,rfl,I2,r2,hz,q2⟩)
 unfold callWith
 refine wpAny_bind (wpAny_holding (wpAny_mono h1 (fun a s2 h2=>wpAny_bind (wpAny_standAt ?_)) fun _ _ x=>x))
 obtain ⟨us,vs,H2,rfl,I2,r2,hz,q2⟩:=h2
 have hC:=I2.bk _ _ hC0
 have T:=T0.keeps I2.bk
 obtain ⟨⟨oI,hoI,hoc⟩,_⟩:=jru I2.kIn hI.cls
 obtain ⟨hp,g,dr,tk,os⟩:=s2
 simp only [hpl']
 refine wpAny_bind (wpAny_keeperOf_exc hC ?_)
 refine wpAny_bind (jxi FB T hC (PySem.W.looks_findIn I2.kIn hI.ini) hoI hoc (by show us.length ≤ sizeLine; rw [← r2.length]; exact hz) fun h' ea hmd=>?_)
 have hna:hp.get? ea = none:=hmd.new
 have ne0 : ∀ b o,hp.get? b = some o → b ≠ ea:=fun b o e z=>by rw [z,hna] at e; cases e
 obtain ⟨t0,het,_,_⟩:=hmd.there
 have I3:Inv X pins σ H2 ⟨h',g,dr,tk,os⟩:=I2.kept (t':=tk) hmd.keeps
 have hH2:H2 ea = none:=I2.j1r hna
 have I4:Inv X pins σ (upd H2 ea (jso ea C)) ⟨h',g,dr,tk,os⟩:=by
  refine I3.j2v hex hH2 (I2.j4m hex hna) ?_ (fun z c e=>?_) (fun p hp'=>?_) ⟨⟨t0,_,het⟩,⟨_,het⟩,fun h1 h2 p k=>?_⟩
  ·obtain ⟨m,⟨o',_,_,ho',_⟩,_⟩:=I2.loc
   exact (ne0 _ _ ho').symm
  ·obtain ⟨v',o',ho',_⟩:=I2.cell z c e
   exact ne0 _ _ ho'
  ·exact ne0 _ _ (I2.pin p hp').1
  ·obtain ⟨t',sl',e'⟩:=p
   exact ⟨t',sl',k _ e'⟩
 have hq:=q2 ea hH2
 have r3:Vals (V.ref ea :: vs) (Value.ref ea :: us):=.cons rfl r2
 have hl:(Value.ref ea :: us ++ []).length = ps.length:=by
  have e:=r3.length
  rw [Fn.len _ _ _ _ hq] at e
  rw [List.append_nil]
  exact e.symm
 have hbt:=hb ⟨h',g,dr,tk,os⟩ (Value.ref ea :: us) I4.kIn hl
 rw [List.append_nil] at hbt
 refine wpAny_call (codeAny_mono (Fn.run _ X.stack _ _ ⟨Value.ref ea :: us,[]⟩ (Value.ref ea :: us) _ _ E0 (hr.make C us []) (I4.j3k.make C us []) hbt r3 hq) fun r s' hq'=>?_)
 cases r with
 | error e'=>exact False.elim hq'
 | ok fl=>
  cases fl with
  | ret u=>
   obtain ⟨v,H5,I5,rv,⟨ev,d,hd5,w5⟩⟩:=I4.after hq'
   subst ev
   refine ⟨rv,wpAny_bind (wpAny_holding (wpAny_point (wpAny_pure ?_)))⟩
   obtain ⟨⟨t5,sl5,he5⟩,_,_⟩:=I5.hok ea _ hd5
   exact ⟨ea,_,t5,rfl,I5.bk _ _ hC0,he5,rfl,rfl,hxe (I5.drop hd5) he5 rfl (I2.j4m hex hna) (if_pos rfl) rfl w5⟩
  | next=>exact False.elim hq'
  | brk=>exact False.elim hq'
  | cont=>exact False.elim hq'
end
end L2
namespace L2
open PySem PySem.Spec PyProof.Rows
def j1g (ea:Addr) (cls:Value) (dd:Option Addr) : HO:=.ext fun h=>∃ o vs,h.get? ea = some o ∧ o.cls = cls ∧ o.data = .fields vs ∧ o.dict = dd
def jpi (X:Cx) (pn:List (Addr × Obj)) (W:St → Value → Option Addr → Hp → Prop) : Cx:=
 { X with pn:=pn,xe:=fun e s'=>∃ (pins:List (Addr × Obj)) (σ : St) (H:Hp) (s0:Shared) (ea:Addr) (cls:Value) (dd:Option Addr) (H':Hp),e = .ref ea ∧ Inv { X with pn:=pn } pins σ H s0 ∧ Fly X.prog X.w X.stack H H' s0 s' ea cls ∧ (∃ oe,s'.heap.get? ea = some oe ∧ oe.dict = dd) ∧ W σ cls dd H' }
section
variable {X:Cx} {pins pn:List (Addr × Obj)} {σ : St} {H H':Hp} {s s':Shared}
theorem Inv.j42 {W:St → Value → Option Addr → Hp → Prop} (I:Inv X pins σ H s) (h : ∀ p ∈ pn,p ∈ X.pn ++ pins) : Inv (jpi X pn W) pins σ H s:=
 I.jy6 (Y:=jpi X pn W) (I.ok.jy6 (Y:=jpi X pn W) ⟨rfl,rfl,rfl⟩ rfl rfl rfl rfl rfl rfl rfl I.ok.hd I.ok.frames) rfl rfl rfl rfl rfl rfl rfl rfl fun p hp=>(List.mem_append.mp hp).elim (h p) fun z=>List.mem_append_right _ z
theorem Inv.j1b {W:St → Value → Option Addr → Hp → Prop} (I:Inv (jpi X pn W) pins σ H s) : Inv { X with pn:=pn } pins σ H s:=
 I.jy6 (Y:={ X with pn:=pn }) (I.ok.jy6 (Y:={ X with pn:=pn }) ⟨rfl,rfl,rfl⟩ rfl rfl rfl rfl rfl rfl rfl I.ok.hd I.ok.frames) rfl rfl rfl rfl rfl rfl rfl rfl fun _ hp=>hp
theorem j3i {W:St → Value → Option Addr → Hp → Prop} (I:Inv (jpi X pn W) pins σ H s) (e:Value) (s':Shared) (h:CX2 X.prog X.w X.stack H s (fun cls dd H'=>W σ cls dd H') e s') : (jpi X pn W).xe e s':=by
 obtain ⟨ea,cls,dd,H',rfl,F,hd,q⟩:=h
 exact ⟨pins,σ,H,s,ea,cls,dd,H',rfl,I.j1b,F,hd,q⟩
theorem Inv.less {a:Addr} {φ ψ : Heap → Prop} (I:Inv X pins σ H s) (ha:H a = some (.ext φ)) (h : ∀ h,φ h → ψ h) (st : ∀ h1 h2:Heap,ψ h1 → (∀ o,h1.get? a = some o → h2.get? a = some o) → ψ h2) : Inv X pins σ (upd H a (.ext ψ)) s:=by
 obtain ⟨p,⟨o,e⟩,_⟩:=I.hok a _ ha
 exact I.write (t':=s.toks) (x:=a) (e:=a) (h':=s.heap) (by rw [ha]; exact True.intro) (.inl rfl) (fun b u _ q=>q) ⟨o,e⟩ ⟨h _ p,⟨o,e⟩,st⟩
def j67 (D:Ends) (i:Nat) (ea:Addr) (cls:Value) (dd:Option Addr) : Ends:=
  { nx:=fun σ2 H2=>H2 ea = some (j1g ea cls dd) ∧ D.nx (σ2.set i none) (upd H2 ea (jsk ea cls))
    rt:=fun v H2=>H2 ea = some (j1g ea cls dd) ∧ D.rt v (upd H2 ea (jsk ea cls))
    bk:=fun σ2 H2=>H2 ea = some (j1g ea cls dd) ∧ D.bk (σ2.set i none) (upd H2 ea (jsk ea cls))
    ct:=fun σ2 H2=>H2 ea = some (j1g ea cls dd) ∧ D.ct (σ2.set i none) (upd H2 ea (jsk ea cls)) }
theorem j0p {s0 s1:Shared} {H1:Hp} {D:Ends} {x n:Str} {i:Nat} {np hpos:Pos} {b₀:Stmt} {suite:List Stmt} {rest:List ExceptHandler} {Pc C ea t:Addr} {dd:Option Addr} {ts:TS} {h₅ B:Heap} {σ':St}
  (hstk:X.stack = X.env :: X.outer) (hex:X.ex = []) (hg:Gl X x) (hm:X.mg x = some (.ref Pc)) (hB:PySem.W.mroIn X.K Pc (.type "BaseException") = some true) (hN:X.N.Nodup) (hi:X.N[i]? = some n) (hn:X.env.scope.names.lookup n = some .local)
  (hs : ∀ ea,PSs (jvy X ea) (b₀ :: suite) ts) (hdb:(x == ("__debug__" : Str)) = false) (IX:Inv X pins σ' H1 s0) (F:Fly X.prog X.w X.stack H1 H' s0 s1 ea (.ref C)) (hfl5:Heap.FlyingW B X.stack ea (.ref C) (.ref t) h₅) (hu:s1.heap.UpToSlots h₅)
  (k1 : ∀ b o o',s0.heap.get? b = some o → s1.heap.get? b = some o' → b ∉ frs X.stack → B.get? b = some o') (k2 : ∀ b u o',H' b = some u → s1.heap.get? b = some o' → B.get? b = some o') (hea:H' ea = none) (hdd : ∃ oe,h₅.get? ea = some oe ∧ oe.dict = dd)
  (hsub:PySem.W.kitCls X.K (.ref C) (.ref Pc) = some true) (hts:ts (j67 D i ea (.ref C) dd) (σ'.set i (some (.ref ea))) (upd H' ea (j1g ea (.ref C) dd))) :
  wpAny (model X.prog X.w) X.A (handleBy (.ref ea) X.env (.ExceptHandler (some (.Name x np)) (some n) (b₀ :: suite) hpos :: rest)) (SP X pins D) X.xe { s1 with heap:=h₅ }:=by
 have noE : ∀ b:Addr,b ∉ ([] : List Addr):=fun b=>by simp
 have I5:Inv X pins σ' H' { s1 with heap:=h₅ }:=ju6 IX F hfl5 hu k1 k2
 obtain ⟨oe,ve,hoe,hoec,hoed,_⟩:=hfl5.first
 refine wpAny_handleBy_cons (codeAny_handlers_test (Calls.Name_function_global I5.ok.kind hg (Calls.loadGlobal_global (by rw [I5.ok.glob]; exact I5.mod.glob.keeps I5.bk) hm ?_) hdb)) (by intro q; cases q)
 refine jx7 (K:=X.K) (h:=h₅) I5.kIn hoe hoec hsub hB _ _ _ _ (fun _ _ q=>q) ?_
 show codeAny _ _ _ _ _
 refine codeAny_handlers_suite_as ?_
 refine wpAny_mono (jln jhj (lands_againW (E:=fun _ _=>False) (Q:=fun _ s''=>∃ h₆,s'' = { s1 with heap:=h₆ } ∧ Heap.FlyingW B X.stack ea (.ref C) (.ref t) h₆ ∧ h₅.UpToSlots h₆) hfl5 fun h₆ hfl₆ hsm₆=>⟨h₆,rfl,hfl₆,hsm₆⟩)) (fun _ s'' ⟨⟨h₆,e6,hfl₆,hsm₆⟩,kd⟩=>?_) (fun _ _ z=>z.1.elim)
 subst e6
 have I6:Inv X pins σ' H' { s1 with heap:=h₆ }:=ju6 IX F hfl₆ (hu.trans hsm₆) k1 k2
 obtain ⟨oe6,ve6,hoe6,hoec6,hoed6,_⟩:=hfl₆.first
 have hd6:oe6.dict = dd:=by
  obtain ⟨o5,e5,d5⟩:=hdd
  obtain ⟨o6,e6,d6⟩:=kd ea o5 e5
  have e6':h₆.get? ea = some o6:=e6
  rw [hoe6] at e6'
  cases e6'
  exact d6.trans d5
 have new0:X.s₀.heap.get? ea = none:=IX.j4m hex F.new
 have ne0 : ∀ b o,s0.heap.get? b = some o → b ≠ ea:=fun b o e z=>by rw [z,F.new] at e; cases e
 have I7:Inv X pins σ' (upd H' ea (j1g ea (.ref C) dd)) { s1 with heap:=h₆ }:=by
  refine I6.j2v hex hea new0 ?_ (fun y c e=>?_) (fun p hp=>?_) ⟨⟨oe6,ve6,hoe6,hoec6,hoed6,hd6⟩,⟨oe6,hoe6⟩,fun h1 h2 p k=>?_⟩
  ·obtain ⟨m,⟨o,_,_,ho,_⟩,_⟩:=IX.loc
   exact (ne0 _ _ ho).symm
  ·obtain ⟨v,o,ho,_⟩:=IX.cell y c e
   exact ne0 _ _ ho
  ·exact ne0 _ _ (IX.pin p hp).1
  ·obtain ⟨o,vs,e1,e2,e3,e4⟩:=p
   exact ⟨o,vs,k o e1,e2,e3,e4⟩
 refine jn0 (v:=.ref ea) I7 hN hi (.inl hn) rfl (fun s8 I8=>?_) (.inr hn)
 refine wpAny_mono (hs ea pins s8 _ _ _ I8.j5q hts) (fun f s9 q=>?_) (fun _ _ z=>z.elim)
 have wk : ∀ {σ9:St} {H9:Hp},Inv X pins σ9 H9 s9 → H9 ea = some (j1g ea (.ref C) dd) → Inv X pins σ9 (upd H9 ea (jsk ea (.ref C))) s9:=fun J e=>J.less e (fun h ⟨o,vs,a1,a2,a3,_⟩=>⟨o,vs,a1,a2,a3⟩) fun h1 h2 p k=>by
  obtain ⟨o,vs,e1,e2,e3⟩:=p
  exact ⟨o,vs,k o e1,e2,e3⟩
 have behind : ∀ {σ9:St} {H9:Hp},Inv X pins σ9 H9 s9 → (∀ s10,Inv X pins (σ9.set i none) H9 s10 → SP X pins D f s10) →
   wpAny (model X.prog X.w) X.A (do bindName X.env n .none; unbindBehindTheSuite X.env n hpos) (fun _ s₃=>SP X pins D f s₃) X.xe s9:=fun {σ9 H9} J k=>by
  refine wpAny_bind (wpAny_bindName (jn0 (v:=.non) J hN hi (.inl hn) rfl (fun s10 I10=>?_) (.inr hn)))
  obtain ⟨m,hm10,hl10⟩:=id I10.loc
  have hiσ : i < σ9.length:=by rw [J.len]; exact (List.getElem?_eq_some_iff.mp hi).1
  obtain ⟨u,ru,lk⟩:=hl10 i n .non hi (by rw [List.getElem?_set_self hiσ]) (.inl hn)
  have hmn:m n = some u:=by
   rcases lk with ⟨_,q⟩ | ⟨q,_⟩
   ·exact q
   ·rcases q with q | q
    ·have q':X.env.scope.names.lookup n = some .cell:=q
     rw [hn] at q'
     cases q'
    ·have q':X.env.scope.names.lookup n = some .free:=q
     rw [hn] at q'
     cases q'
  unfold unbindBehindTheSuite
  refine wpAny_onRaise (wpAny_unbindName_local (env:=X.env) hn hm10 hmn (by rw [J.ok.kind]; rfl) fun h' u' hn' hs'=>?_)
  have I11:=I10.unset hN hi hm10 hl10 hn' hs'
  rw [List.set_set] at I11
  exact k _ I11
 show wpAny _ _ _ _ _ _
 cases f with
 | next=>
  obtain ⟨σ9,H9,I9,e9,q⟩:=q
  exact behind (wk (I9.j0c I8.ok) e9) fun s10 I10=>⟨_,_,I10,q⟩
 | brk=>
  obtain ⟨σ9,H9,I9,e9,q⟩:=q
  exact behind (wk (I9.j0c I8.ok) e9) fun s10 I10=>⟨_,_,I10,q⟩
 | cont=>
  obtain ⟨σ9,H9,I9,e9,q⟩:=q
  exact behind (wk (I9.j0c I8.ok) e9) fun s10 I10=>⟨_,_,I10,q⟩
 | ret u=>
  obtain ⟨v,σ9,H9,I9,r,e9,q⟩:=q
  exact behind (wk (I9.j0c I8.ok) e9) fun s10 I10=>⟨v,_,_,I10,r,q⟩
end
section
variable {X:Cx}
end
end L2
namespace L2
open PySem PySem.Spec PyProof.Rows
theorem jyv {P:Program} {w:World} {K:PySem.W.Frag} {mg:Str → Option Value} {base:Heap} {N:List Str} {qual:Str} {scope:Scope} {f:Addr} {cd:Value} {A:Around} {outer:List Env} {s:Shared} {H:Hp} {E:XK} {k:Nat} {fI C:Addr} {fd:FuncData} {ps:List Str} {sp:Sp} {fld x:Str} {e:Expr} {es:List Expr} {t:TA} {np cpos pos:Pos}
  (hg:Gl (js8 (CX2 P w) P w K mg base N qual scope f cd A outer s H E) x) (hm:mg x = some (.ref C)) (hI:jz9 K C fI fld) (Fn:yf P w K mg base CX0 k fI fd ps sp) (hr:jfi (k + 1) (js8 (CX2 P w) P w K mg base N qual scope f cd A outer s H E).A) (hb:Binds K fd ps [])
  (ha:PA (js8 (CX2 P w) P w K mg base N qual scope f cd A outer s H E) (e :: es) t)
  (hdb:(x == ("__debug__" : Str)) = false:=by decide) (he:starEach (e :: es) (envOfC qual scope s.heap.objs.size f cd) = (false,eval e (envOfC qual scope s.heap.objs.size f cd)) :: starEach es (envOfC qual scope s.heap.objs.size f cd):=by rfl)
  (hpl:(backTo cpos (starEach es (envOfC qual scope s.heap.objs.size f cd))).any (·.1) = false:=by rfl) :
  PS (js8 (CX2 P w) P w K mg base N qual scope f cd A outer s H E) (.Raise (some (.Call (.Name x np) (e :: es) [] cpos)) none pos) (jyc C sp (E (.ref C)) t):=
 jyb rfl rfl hg hm hI Fn hr hb ha (fun I he hd new hn hc q=>j1q I he hd new hn (by rw [hc]; exact q)) hdb he hpl
end L2
namespace L2
open PySem PySem.Spec PyProof.Rows
end L2
namespace L2
open PySem PySem.Spec PyProof.Rows
end L2
namespace L2
open PySem PySem.Spec PyProof.Rows
section
variable {X:Cx} {pn:List (Addr × Obj)}
def j4o (C:Addr) (m:Str) (sp:Sp) (dvs:List V) (W:St → Value → Option Addr → Hp → Prop) (ta:TE) (t:TA) : TE:=fun σ H Q=>ta σ H fun x H1=>∃ a dx fs,x = .ref a ∧ H1 a = some (.ins C dx fs) ∧ fs.lookup m = none ∧
 t σ H1 fun vs H2=>sp (x :: (vs ++ dvs)) H2 Q fun cls dd H'=>W σ cls dd H'
theorem jvv {W:St → Value → Option Addr → Hp → Prop} {k:Nat} {f C:Addr} {fd:FuncData} {ps:List Str} {sp:Sp} {dvs:List V} {ds:List Value} {m:Str} {apos pos:Pos} {o e:Expr} {es:List Expr} {ta:TE} {t:TA} {pl:Sem Bool}
  (he:PE (jpi X pn W) o ta) (c:Cls X.K C) (hm:Meth X.K C m f) (F:yf X.prog X.w X.K X.mg X.base (CX2 X.prog X.w) k f fd ps sp) (hr:jfi k X.A) (hb:Binds X.K fd ps ds) (hd:Vals dvs ds) (ha:PA (jpi X pn W) (e :: es) t)
  (hst:starEach (e :: es) X.env = (false,eval e X.env) :: starEach es X.env:=by rfl) (hpl:(backTo pos (starEach es X.env)).any (·.1) = false:=by rfl)
  (ht:eval (.Call (.Attribute o m apos) (e :: es) [] pos) X.env = (do
   let ov ← eval o X.env
   standAt apos.atName
   let (f,first) ← holding [ov] (getMethod ov m pl)
   callWith pos f first (backTo pos (starEach (e :: es) X.env)) (backToKw pos (keywordEach [] X.env))):=by rfl) :
  PE (jpi X pn W) (.Call (.Attribute o m apos) (e :: es) [] pos) (j4o C m sp dvs W ta t):=by
 intro pins s σ H Q I h
 refine PySem.W.methodCall_KW (pl:=pl) (thn (he pins s σ H _ I h) fun u s1 ⟨x,H1,I1,rx,a,dx,fs,ex,ea,l,q⟩=>?_) ht
 subst ex
 obtain rfl:u = Value.ref a:=rx
 refine jib I1 ea c hm l ?_
 refine PySem.W.callWith_K (first:=[.ref a]) (h₀:=X.base) I.ok.mod.kin hm.kp (thn (ha pos pins s1 σ H1 _ I1 q) fun us s2 ⟨vs,H2,I2,r,q2⟩=>⟨I2.kIn,?_⟩) hst hpl
 exact j14 (us:=.ref a :: us) (vs:=.ref a :: vs) F hr hb hd I2 (j3i I2) (.cons rfl r) q2
end
def j56 (K:PySem.W.Frag) (P1:Addr) (i:Nat) (tb:(St → Value → Option Addr → Hp → Prop) → TS) (ts:TS) : TS:=fun D σ H=>∃ W:St → Value → Option Addr → Hp → Prop,tb W D σ H ∧
 ∀ σ' cls dd H' ea,W σ' cls dd H' → H' ea = none → ∃ C,cls = .ref C ∧ PySem.W.kitCls K (.ref C) (.ref P1) = some true ∧ ts (j67 D i ea cls dd) (σ'.set i (some (.ref ea))) (upd H' ea (j1g ea cls dd))
section
variable {X:Cx}
theorem jyz {body:List Stmt} {x1 n:Str} {i:Nat} {np1 hp1 pos:Pos} {b1:Stmt} {su1:List Stmt} {P1:Addr} {tb:(St → Value → Option Addr → Hp → Prop) → TS} {ts1:TS}
  (hstk:X.stack = X.env :: X.outer) (hfr:X.env.frame = some X.env.locals) (hex:X.ex = []) (hg1:Gl X x1) (hm1:X.mg x1 = some (.ref P1)) (hB1:PySem.W.mroIn X.K P1 (.type "BaseException") = some true)
  (hN:X.N.Nodup) (hi:X.N[i]? = some n) (hn:X.env.scope.names.lookup n = some .local)
  (hb : ∀ pn W,PSs (jpi X pn W) body (tb W)) (hs1 : ∀ ea,PSs (jvy X ea) (b1 :: su1) ts1) (hd1:(x1 == ("__debug__" : Str)) = false:=by decide) :
  PS X (.Try body [.ExceptHandler (some (.Name x1 np1)) (some n) (b1 :: su1) hp1] [] [] pos) (j56 X.K P1 i tb ts1):=by
 intro pins s σ H D I h
 obtain ⟨W,h1,h2⟩:=h
 refine wpAny_Try_except ?_
 have back : ∀ {pins':List (Addr × Obj)} {σ':St} {H':Hp} {s':Shared},Inv (jpi X (X.pn ++ pins) W) pins' σ' H' s' → Inv X pins σ' H' s':=fun J=>J.j1b.j01 fun _ hp=>hp
 refine wpAny_mono (hb (X.pn ++ pins) W pins s σ H D (I.j42 fun _ hp=>hp) h1) (fun f s1 q=>?_) (fun e s1 q=>?_)
 ·cases f with
  | next=>
   obtain ⟨σ1,H1,I1,q⟩:=q
   exact wpAny_execs_nil ⟨σ1,H1,back I1,q⟩
  | brk=>obtain ⟨σ1,H1,I1,q⟩:=q; exact ⟨σ1,H1,back I1,q⟩
  | cont=>obtain ⟨σ1,H1,I1,q⟩:=q; exact ⟨σ1,H1,back I1,q⟩
  | ret u=>obtain ⟨v,σ1,H1,I1,r,q⟩:=q; exact ⟨v,σ1,H1,back I1,r,q⟩
 ·obtain ⟨pins',σ',H1,s0,ea,cls,dd,H',rfl,I0,F,⟨oe,hoe,hdd⟩,wW⟩:=q
  have IX:Inv X pins σ' H1 s0:=I0.j01 fun _ hp=>hp
  obtain ⟨B,t,hf,k1,k2⟩:=F.fly
  have hea:H' ea = none:=by
   cases q:H' ea with
   | none=>rfl
   | some u=>
    obtain ⟨o,e⟩:=(F.hok ea u q).there
    have z:=k2 ea u o q e
    rw [hf.2.1] at z
    cases z
  obtain ⟨C,rfl,m1,q1⟩:=h2 σ' cls dd H' ea wW hea
  have frames:X.A.frames = some (X.env :: X.outer):=by rw [IX.ok.frames,hstk]
  have hf':Heap.FlyingW B (X.env :: X.outer) ea (.ref C) (.ref t) s1.heap:=by rw [← hstk]; exact hf
  refine wpAny_mono (jln jnc (wpAny_looks_onW (E:=fun _ _=>False) (Q:=fun _ s''=>∃ h₄,s'' = { s1 with heap:=h₄ } ∧ Heap.HeldW B (X.env :: X.outer) ea (.ref C) (.ref t) X.env.locals h₄ ∧ s1.heap.UpToSlots h₄) frames hfr hf' fun h₄ a b=>⟨h₄,rfl,a,b⟩)) (fun _ s'' ⟨⟨h₄,e4,hheld₄,hsm₄⟩,kd4⟩=>?_) (fun _ _ z=>z.1.elim)
  subst e4
  refine wpAny_mono (jln jhj (wpAny_landsW (E:=fun _ _=>False) (Q:=fun _ s''=>∃ h₅,s'' = { s1 with heap:=h₅ } ∧ Heap.FlyingW B (X.env :: X.outer) ea (.ref C) (.ref t) h₅ ∧ h₄.UpToSlots h₅) hheld₄ fun h₅ a b=>⟨h₅,rfl,a,b⟩)) (fun _ s'' ⟨⟨h₅,e5,hfl₅,hsm₅⟩,kd5⟩=>?_) (fun _ _ z=>z.1.elim)
  subst e5
  have hfl5:Heap.FlyingW B X.stack ea (.ref C) (.ref t) h₅:=by rw [hstk]; exact hfl₅
  obtain ⟨o4,e4,d4⟩:=kd4 ea oe hoe
  obtain ⟨o5,e5,d5⟩:=kd5 ea o4 e4
  exact j0p hstk hex hg1 hm1 hB1 hN hi hn hs1 hd1 IX F hfl5 (hsm₄.trans hsm₅) k1 k2 hea ⟨o5,e5,(d5.trans d4).trans hdd⟩ m1 q1
end
end L2
namespace L2
open PySem PySem.Spec PyProof.Rows
def j5n {α : Type} : List α → List α → List α
 | [a,b],[c,d,e,f]=>[a,b,c,d,e,f]
 | _,_=>[]
theorem jzp {vs : List V} {us:List Value} {zs:List V} {ws:List Value} (r1:Vals vs us) (r2:Vals zs ws) : Vals (j5n vs zs) (j5n us ws):=by
 cases r1 with
 | nil=>exact .nil
 | cons a r1 =>
  cases r1 with
  | nil=>exact .nil
  | cons b r1 =>
   cases r1 with
   | cons _ _=>exact .nil
   | nil =>
    cases r2 with
    | nil=>exact .nil
    | cons c r2=>
     cases r2 with
     | nil=>exact .nil
     | cons d r2=>
      cases r2 with
      | nil=>exact .nil
      | cons e r2=>
       cases r2 with
       | nil=>exact .nil
       | cons f r2=>
        cases r2 with
        | nil=>exact .cons a (.cons b (.cons c (.cons d (.cons e (.cons f .nil)))))
        | cons _ _=>exact .nil
theorem j0w {lo:Int} {n:Nat} {D:Addr} {g:TG} {ti:TT} {tk tv:TE} {σ0:St} {H0:Hp} {QF:Hp → Prop} (Pv:Nat → St → Hp → Prop) (h0:Pv 0 σ0 H0)
  (hs : ∀ i σ H,i < n → Pv i σ H → g (.int (lo + i)) σ H fun σ2 H2=>ti σ2 H2 fun b H3=>if b = true then tk σ2 H3 fun y H4=>tv σ2 H4 fun z H5=>∃ H6,jwx H5 D y z H6 ∧ Pv (i + 1) σ2 H6 else Pv (i + 1) σ2 H3)
  (hd : ∀ σ H,Pv n σ H → QF H) : ∃ W:Nat → Nat → St → Hp → Prop,(∃ m,W 0 m σ0 H0) ∧ DcW (Itr lo n) g ti tk tv D QF W:=by
 refine ⟨fun i m σ H=>m = n - i ∧ i ≤ n ∧ Pv i σ H,⟨n,by simp,Nat.zero_le _,h0⟩,?_⟩
 rintro i m σ H ⟨rfl,hi,p⟩
 by_cases hlt:i < n
 ·refine .inr ⟨hlt,Pv (i + 1),fun σ' H' p'=>⟨n - (i + 1),by omega,rfl,hlt,p'⟩,fun x H' y=>?_⟩
  obtain ⟨e,y⟩:=y
  subst e y
  exact hs i σ _ hlt p
 ·have e:i = n:=by omega
  subst e
  exact .inl ⟨Nat.le_refl _,hd σ H p⟩
theorem jor (val:Nat → Int) : ∀ k i,i ≤ k → val i ≤ val (argBest (fun i j=>decide (val i > val j)) k)
 | 0,i,h=>by
  have:i = 0:=by omega
  subst this
  exact Int.le_refl _
 | k + 1,i,h=>by
  have ih:=jor val k
  unfold argBest
  by_cases z:val (k + 1) > val (argBest (fun i j=>decide (val i > val j)) k)
  ·rw [if_pos (decide_eq_true z)]
   by_cases q:i = k + 1
   ·rw [q]
    exact Int.le_refl _
   ·have:=ih i (by omega)
    omega
  ·rw [if_neg (by simpa using z)]
   by_cases q:i = k + 1
   ·rw [q]; omega
   ·exact ih i (by omega)
theorem jdi {α β : Type} {R : α → β → Prop} : ∀ {xs:List α} {ys:List β} {i:Nat} {y : β},Paired R xs ys → ys[i]? = some y → ∃ x,xs[i]? = some x ∧ R x y
 | _,_,i,y,.nil,e=>by simp at e
 | _,_,0,y,.cons h _,e=>by
  cases Option.some.inj e
  exact ⟨_,rfl,h⟩
 | _,_,i + 1,y,.cons _ t,e=>jdi (i:=i) t e
section
variable {X:Cx}
theorem jxv (hc:X.calm = true) : jnm X (.builtin "max") (fun xs H Q=>∃ (p:Addr) (ns:List Int),xs = [.ref p] ∧ SqL X.K H p (ns.map V.int) ∧ 0 < ns.length ∧ ∀ M,M ∈ ns → (∀ a ∈ ns,a ≤ M) → Q (.int M) H):=by
 intro pins s σ H xs us Q I r h
 obtain ⟨p,ns,rfl,hq,hne,q⟩:=h
 obtain ⟨u,rfl,rx⟩:=vals1 r
 cases rx
 obtain ⟨its,r',pl,hz⟩:=I.list hq
 have hlen:ns.length = its.length:=by have:=r'.length; rw [List.length_map] at this; exact this
 have hv : ∀ i v,its.toArray[i]? = some v → ∃ t,v = Value.int (ns.getD i 0) t:=fun i v e=>by
  have e':its[i]? = some v:=by simpa using e
  obtain ⟨y,ey,ry⟩:=jdi r' e'
  rw [List.getElem?_map] at ey
  cases hn:ns[i]? with
  | none=>rw [hn] at ey; cases ey
  | some n=>
   rw [hn] at ey
   cases ey
   obtain ⟨t,et⟩:=ry
   refine ⟨t,?_⟩
   rw [et,List.getD_eq_getElem?_getD,hn]
   rfl
 have hp:p ≠ s.heap.objs.size:=by
  obtain ⟨o,ho,_⟩:=pl.isList
  exact Nat.ne_of_lt (Heap.lt_size ho)
 refine call_max_walk (wpAny_pyIter_list pl.isList ⟨s.heap.objs.size,_,_,_,_,_,_,rfl,Walks.list (A:=X.A.in1) (show X.A.in1.handled = none from I.ok.hd hc) s.heap.objs.size p hp its.toArray,⟨⟨_,Heap.get?_push_size _ rfl,rfl,rfl⟩,?_⟩,fun b hb=>?_,by simpa using (by omega : 0 < its.length),CmpOf.ints_gt (fun i=>ns.getD i 0) hv,fun v h' tk hP hk=>?_⟩)
 ·obtain ⟨o,ho,hr⟩:=pl.isList
  exact ⟨o,Heap.get?_push_of_some _ ho,hr⟩
 ·rw [Heap.size_push]
  rcases List.mem_cons.mp hb with rfl | hb
  ·exact Nat.lt_succ_self _
  ·rw [List.mem_singleton.mp hb]
   obtain ⟨o,ho,_⟩:=pl.isList
   exact Nat.lt_succ_of_lt (Heap.lt_size ho)
 ·obtain ⟨t,rfl⟩:=hv _ _ hP
  refine ⟨V.int (ns.getD (argBest (fun i j=>decide (ns.getD i 0 > ns.getD j 0)) (its.toArray.size - 1)) 0),H,I.kept (t':=tk) fun b o e=>hk b o (fun z=>?_) (Heap.get?_push_of_some _ e),⟨t,rfl⟩,q _ ?_ fun a ha=>?_⟩
  ·have:b = s.heap.objs.size:=by simpa using z
   have lt:=Heap.lt_size e
   rw [this] at lt
   exact Nat.lt_irrefl _ lt
  ·have hb:=jqm (fun i j=>decide (ns.getD i 0 > ns.getD j 0)) (its.toArray.size - 1)
   have hs:its.toArray.size = its.length:=by simp
   generalize argBest (fun i j=>decide (ns.getD i 0 > ns.getD j 0)) (its.toArray.size - 1) = j at hb
   have hj:j < ns.length:=by omega
   rw [List.getD_eq_getElem?_getD,List.getElem?_eq_getElem hj]
   exact List.getElem_mem hj
  ·obtain ⟨i,hi,rfl⟩:=List.mem_iff_getElem.mp ha
   have:=jor (fun i=>ns.getD i 0) (its.toArray.size - 1) i (by simp; omega)
   rw [show ns.getD i 0 = ns[i] by rw [List.getD_eq_getElem?_getD,List.getElem?_eq_getElem hi]; rfl] at this
   exact this
end
structure j69 (K:PySem.W.Frag) (C:Addr) (m:Str) (f:Addr) : Prop where
 sp:PySem.W.specialIn K (.ref C) "__getattribute__" = some (some (.builtin "type.__getattribute__"))
 rd:PySem.W.readsIn K C (.type "type") = true
 at_:PySem.W.findCls K (.ref C) (.type "type") m = some (.val (.ref f))
 kp:PySem.W.keepIn K (.ref f) = true
section
variable {X:Cx} {CX:CXT} {E:XK} {k:Nat} {f C:Addr} {fd:FuncData} {ps:List Str} {sp:Sp} {dvs:List V} {ds:List Value} {x m:Str} {p apos pos:Pos} {e:Expr} {es:List Expr} {t:TA}
theorem j18 {pl:Sem Bool} (hg:Gl X x) (hC:X.mg x = some (.ref C)) (hm:j69 X.K C m f) (F:yf X.prog X.w X.K X.mg X.base CX k f fd ps sp) (hr:jfi k X.A) (hb:Binds X.K fd ps ds) (hd:Vals dvs ds) (hx:Passes CX X E) (ha:PA X (e :: es) t)
  (hdb:(x == ("__debug__" : Str)) = false:=by decide) (hst:starEach (e :: es) X.env = (false,eval e X.env) :: starEach es X.env:=by rfl) (hpl:(backTo pos (starEach es X.env)).any (·.1) = false:=by rfl)
  (ht:eval (.Call (.Attribute (.Name x p) m apos) (e :: es) [] pos) X.env = (do
   let ov ← eval (.Name x p) X.env
   standAt apos.atName
   let (f,first) ← holding [ov] (getMethod ov m pl)
   callWith pos f first (backTo pos (starEach (e :: es) X.env)) (backToKw pos (keywordEach [] X.env))):=by rfl) :
  PE X (.Call (.Attribute (.Name x p) m apos) (e :: es) [] pos) (j4y sp dvs E t):=by
 intro pins s σ H Q I h
 refine PySem.W.methodCall_KW (pl:=pl) (thn (jhq (Q:=EP X pins σ fun v H'=>v = V.ref C ∧ H' = H) I hg hC ⟨V.ref C,H,I,rfl,rfl,rfl⟩ hdb) fun u s1 ⟨y,H1,I1,ry,ey,eH⟩=>?_) ht
 subst ey eH
 obtain rfl:u = Value.ref C:=ry
 refine PySem.W.method_cls I1.kIn hm.sp (PySem.W.cls_value I1.kIn hm.rd hm.at_ rfl ?_)
 have I2:=I1.tok (s1.toks + 1)
 refine PySem.W.callWith_K (first:=[]) (h₀:=X.base) I.ok.mod.kin hm.kp (thn (ha pos pins _ σ H1 _ I2 h) fun us s2 ⟨vs,H2,I3,r,q2⟩=>⟨I3.kIn,?_⟩) hst hpl
 exact jvu F hr hb hd hx I3 r q2
end
section
variable {X:Cx}
end
end L2
namespace L2
open PySem PySem.Spec PyProof.Rows
end L2
namespace L2
open PySem PySem.Spec PyProof.Rows
open AutoSeq1 (wpAny_loadPart')
theorem jyh {l:Addr} {its:List Value} {n:Nat} {x:Value} {e:Value → Bool} {j:Nat} {y:Value} (hj:its[j]? = some y) (hit:e y = true) (hz:its.length ≤ sizeLine) :
  ∀ (d i:Nat),i + d = j → (∀ m z,i ≤ m → m < j → its[m]? = some z → e z = false) → Meets (Builtin.«list.remove.loop» ⟨[.ref l,x,rawInt i],[]⟩)
   (fun A R s=>s.heap.get? l = some { cls:=.type "list",dict:=none,data:=.seq its.toArray n,slots:=#[] } ∧ (∀ u ∈ its,SeqAt.EqAt A.in1 s u x (e u)) ∧ R (.ok (.ret .none)) { s with heap:=s.heap.update l (Obj.mapSeq fun xs=>xs.eraseIdxIfInBounds j) })
 | d,i,hd,hno=>by
  intro prog w A R s h
  obtain ⟨hp,g,dp,tk,os⟩:=s
  obtain ⟨hl,he,h⟩:=h
  have lt:i < its.length:=by
   have:=(List.getElem?_eq_some_iff.mp hj).1
   omega
  obtain ⟨v,hv⟩ : ∃ v,its[i]? = some v:=⟨_,List.getElem?_eq_getElem lt⟩
  have hi:its.toArray[((i:Nat) : Int).toNat]? = some v:=by simpa using hv
  have hs1:its.toArray.size ≤ sizeLine:=by rw [List.size_toArray]; exact hz
  wp_walk using wpAny_loadPart' hl
  rw [hi]
  refine wpAny_bind (he v (List.mem_of_getElem? hv) prog w _ _ ?_)
  cases d with
  | zero=>
   have e1:i = j:=by omega
   subst e1
   rw [hj] at hv
   cases hv
   rw [hit]
   wp_walk using wpAny_loadPart' hl
   have small:(Obj.mapSeq (fun x=>x.eraseIdxIfInBounds ((i:Nat) : Int).toNat) { cls:=Value.type "list",data:=Data.seq its.toArray n }).data.pastItsLine = none:=by
    refine pastItsLine_seq (Nat.le_trans ?_ (Nat.le_succ_of_le hz))
    show (its.toArray.eraseIdxIfInBounds ((i:Nat) : Int).toNat).size ≤ its.length
    rw [List.eraseIdxIfInBounds_toArray,List.size_toArray]
    exact List.length_eraseIdx_le _ _
   rw [small]
   wp_walk
   exact h
  | succ d=>
   rw [hno i v (Nat.le_refl _) (by omega) hv]
   wp_walk
   have ec:((i:Int) + 1) = ((i + 1:Nat) : Int):=by push_cast; rfl
   rw [ec]
   refine ⟨plainId_quiet MeetsSeq.plain_remove_loop _,codeAny_builtin MeetsSeq.entry_remove_loop ?_⟩
   rw [Around.under_plainId MeetsSeq.plain_remove_loop _]
   exact jyh hj hit hz d (i + 1) (by omega) (fun m z h1 h2=>hno m z (by omega) h2) prog w A R _ ⟨hl,he,h⟩
theorem j20 {l:Addr} {its:List Value} {n:Nat} {x:Value} {e:Value → Bool} {j:Nat} {y:Value} (hj:its[j]? = some y) (hit:e y = true) (hz:its.length ≤ sizeLine) (hno : ∀ m z,m < j → its[m]? = some z → e z = false) :
  Meets (Builtin.«list.remove» ⟨[.ref l,x],[]⟩)
   (fun A R s=>s.heap.get? l = some { cls:=.type "list",dict:=none,data:=.seq its.toArray n,slots:=#[] } ∧ (∀ u ∈ its,SeqAt.EqAt A.in1 s u x (e u)) ∧ R (.ok (.ret .none)) { s with heap:=s.heap.update l (Obj.mapSeq fun xs=>xs.eraseIdxIfInBounds j) }):=by
 intro prog w A R s h
 obtain ⟨hp,g,dp,tk,os⟩:=s
 have go:=jyh (l:=l) (n:=n) (x:=x) hj hit hz j 0 (Nat.zero_add j) (fun m z _ h2=>hno m z h2) prog w A R _ h
 wp_walk using wpAny_loadPart' h.1
 refine ⟨plainId_quiet MeetsSeq.plain_remove_loop _,codeAny_builtin MeetsSeq.entry_remove_loop ?_⟩
 rw [Around.under_plainId MeetsSeq.plain_remove_loop _]
 exact go
def j6m (K:PySem.W.Frag) : V → List V → Hp → VK → Prop:=fun x vs H Q=>∃ l xs y n nss,x = .ref l ∧ vs = [y] ∧ H l = some (.lst xs) ∧ jza K H y n ∧ Paired (jza K H) xs nss ∧ n ∈ nss ∧ Q .non (upd H l (.lst (xs.eraseIdx (nss.idxOf n))))
section
variable {X:Cx}
theorem jwq (hu:X.A.units + 64 < cLine) : MtM X "list.remove" (j6m X.K):=by
 intro pins s σ H x vs v us Q I rx rv h
 obtain ⟨l,xs,y,n,nss,rfl,rfl,hH,hy,hs,hm,q⟩:=h
 cases rx
 obtain ⟨u,rfl,ru⟩:=rv.one
 obtain ⟨z,its,k,r,hl,e⟩:=I.j3p hH
 have lx:=Paired.length hs
 have hi:nss.idxOf n < nss.length:=List.idxOf_lt_length_iff.mpr hm
 obtain ⟨w,hw,rw'⟩:=r.get (List.getElem?_eq_getElem (show nss.idxOf n < xs.length by omega))
 have is : ∀ (m:Nat) (v:Value),its[m]? = some v → ∃ t,nss[m]? = some t ∧ isT X.K H n v = decide (t = n):=fun m v hv=>by
  obtain ⟨x',hx',rv'⟩:=jdi r hv
  obtain ⟨t,ht,q'⟩:=qi hs hx'
  exact ⟨t,ht,jya I q' rv'⟩
 have yes:isT X.K H n w = true:=by
  obtain ⟨t,ht,q'⟩:=is _ _ hw
  rw [List.getElem?_eq_getElem hi,List.getElem_idxOf hi] at ht
  rw [q',← Option.some.inj ht]
  exact decide_eq_true rfl
 refine call_meets F.slot_list_remove ⟨_,e,rfl⟩ F.entry_list_remove (F.args_list_remove_2 _ _) (j20 (e:=isT X.K H n) hw yes (by omega) (fun m v hlt hv=>?_)) ⟨e,fun v hv=>jk2 I ?_ hy ru r hs v hv,?_⟩
 ·obtain ⟨t,ht,q'⟩:=is _ _ hv
  rw [q']
  refine decide_eq_false fun z=>?_
  subst z
  obtain ⟨a1,b1⟩:=List.getElem?_eq_some_iff.mp ht
  have no:=List.not_of_lt_findIdx (p:=(· == t)) (xs:=nss) (i:=m) hlt
  rw [b1] at no
  simp at no
 ·first | (have e:X.A.in1.units = X.A.units + 1:=rfl; omega) | (have e:X.A.in1.units = X.A.units:=rfl; omega) | (have e:=Around.units_in1 X.A; omega)
 ·refine ⟨.non,_,I.j6n (its':=its.eraseIdx (nss.idxOf n)) hH e ?_ (r.eraseIdx _) ?_,rfl,q⟩
  ·show its.toArray.eraseIdxIfInBounds _ = (its.eraseIdx _).toArray
   rw [List.eraseIdxIfInBounds_toArray]
  ·have:=List.length_eraseIdx_le xs (nss.idxOf n)
   omega
end
end L2
namespace L2
open PySem PySem.Spec PyProof.Rows
section
variable {X:Cx}
end
end L2
namespace L2
open PySem PySem.Spec PyProof.Rows
section
variable {X:Cx} {K:PySem.W.Frag}
end
end L2
namespace L2
open PySem PySem.Spec PyProof.Rows
section
variable {X:Cx}
end
end L2
namespace L2
open PySem PySem.Spec PyProof.Rows
section
variable {K:PySem.W.Frag} {x qual:Str} {st:Stmt} {f:Addr} {fd:FuncData} {p1 p2 p3 p4 p5:Str}
abbrev jyt (x qual:Str) (st:Stmt) (ps:List Str) (us:List Value) : Prop:=∀ (kV doc pm:Value) (an:Option Addr) (cdv ct:Value),bindArgs (PySem.W.fnOf x qual (jlv st) (jha st) (jh st) .none kV doc pm an cdv ct) ⟨us,[]⟩ = pure (ps.zip us)
theorem bn1 (F:Fun K x qual st f fd) (h : ∀ a,jyt x qual st [p1] [a]) : Binds K fd [p1] []:=F.binds fun kV doc pm an cdv ct us hl=>by
 obtain ⟨a,rfl⟩:=List.length_eq_one_iff.mp hl
 exact h a kV doc pm an cdv ct
theorem ja0 {us:List Value} {n:Nat} (h:us.length = n + 1) : ∃ a r,us = a :: r ∧ r.length = n:=by
 cases us with
 | nil=>cases h
 | cons a r=>exact ⟨a,r,rfl,Nat.succ.inj h⟩
theorem bn2 (F:Fun K x qual st f fd) (h : ∀ a b,jyt x qual st [p1,p2] [a,b]) : Binds K fd [p1,p2] []:=F.binds fun kV doc pm an cdv ct us hl=>by
 obtain ⟨a,r1,rfl,h1⟩:=ja0 hl
 obtain ⟨b,rfl⟩:=List.length_eq_one_iff.mp h1
 exact h a b kV doc pm an cdv ct
theorem bn3 (F:Fun K x qual st f fd) (h : ∀ a b c,jyt x qual st [p1,p2,p3] [a,b,c]) : Binds K fd [p1,p2,p3] []:=F.binds fun kV doc pm an cdv ct us hl=>by
 obtain ⟨a,r1,rfl,h1⟩:=ja0 hl
 obtain ⟨b,r2,rfl,h2⟩:=ja0 h1
 obtain ⟨c,rfl⟩:=List.length_eq_one_iff.mp h2
 exact h a b c kV doc pm an cdv ct
theorem bn4 (F:Fun K x qual st f fd) (h : ∀ a b c d,jyt x qual st [p1,p2,p3,p4] [a,b,c,d]) : Binds K fd [p1,p2,p3,p4] []:=F.binds fun kV doc pm an cdv ct us hl=>by
 obtain ⟨a,r1,rfl,h1⟩:=ja0 hl
 obtain ⟨b,r2,rfl,h2⟩:=ja0 h1
 obtain ⟨c,r3,rfl,h3⟩:=ja0 h2
 obtain ⟨d,rfl⟩:=List.length_eq_one_iff.mp h3
 exact h a b c d kV doc pm an cdv ct
theorem bn5 (F:Fun K x qual st f fd) (h : ∀ a b c d e,jyt x qual st [p1,p2,p3,p4,p5] [a,b,c,d,e]) : Binds K fd [p1,p2,p3,p4,p5] []:=F.binds fun kV doc pm an cdv ct us hl=>by
 obtain ⟨a,r1,rfl,h1⟩:=ja0 hl
 obtain ⟨b,r2,rfl,h2⟩:=ja0 h1
 obtain ⟨c,r3,rfl,h3⟩:=ja0 h2
 obtain ⟨d,r4,rfl,h4⟩:=ja0 h3
 obtain ⟨e,rfl⟩:=List.length_eq_one_iff.mp h4
 exact h a b c d e kV doc pm an cdv ct
theorem j0y {k1:Str} (h : ∀ (s:Shared) a b,BindsTo s fd ⟨[a],[(k1,b)]⟩ [(p1,a),(p2,b)]) : jf5 K fd [p1,p2] [k1] jwv jwv:=⟨fun s us ws _ hl=>by
 rcases us with _ | ⟨a,_ | ⟨_,_⟩⟩ <;> rcases ws with _ | ⟨b,_ | ⟨_,_⟩⟩
 all_goals first | exact h s a b | (cases hl),fun r1 r2=>jzl r1 r2⟩
theorem j6k {k1 k2:Str} (h : ∀ (s:Shared) a b c,BindsTo s fd ⟨[a],[(k1,b),(k2,c)]⟩ [(p1,a),(p2,b),(p3,c)]) : jf5 K fd [p1,p2,p3] [k1,k2] j3l j3l:=⟨fun s us ws _ hl=>by
 rcases us with _ | ⟨a,_ | ⟨_,_⟩⟩ <;> rcases ws with _ | ⟨b,_ | ⟨c,_ | ⟨_,_⟩⟩⟩
 all_goals first | exact h s a b c | (cases hl),fun r1 r2=>j0i r1 r2⟩
end
section
variable {X:Cx} {a:Expr} {ta:TE} {pos:Pos}
theorem j15 (ha:PE X a ta) : PE X (.UnaryOp .Not a pos) (fun σ H Q=>ta σ H fun x H'=>∃ k,j5w X.K x H' k ∧ Q (.bl (!k)) H'):=by
 intro pins s σ H Q I h
 refine UnaryOp_ (thn (ha pins s σ H _ I h) fun v s1 ⟨x,H1,I1,r1,q1⟩=>?_)
 exact not_of (thn (j02 pins s1 σ H1 x v (fun k H'=>Q (.bl (!k)) H') I1 r1 q1) fun b s2 ⟨H2,I2,q2⟩=>⟨.bl (!b),H2,I2,rfl,q2⟩)
end
end L2
set_option Elab.async false
set_option linter.all false
set_option maxRecDepth 100000
namespace M
structure O where
 p:Int
 n:Int
 g:Int
 m:Int
 deriving DecidableEq
def xk (q:Int) (o:O) : Bool:=decide (0 ≤ o.p ∧ o.p ≤ q - 1 ∧ 0 ≤ o.g ∧ o.g ≤ q - 1 ∧ o.p ≠ o.g ∧ 0 ≤ o.n ∧ o.n ≤ 99 ∧ 1 ≤ o.m ∧ o.m ≤ 1000)
theorem zy {q:Int} {o:O} : xk q o = true ↔ (0 ≤ o.p ∧ o.p ≤ q - 1 ∧ 0 ≤ o.g ∧ o.g ≤ q - 1 ∧ o.p ≠ o.g ∧ 0 ≤ o.n ∧ o.n ≤ 99 ∧ 1 ≤ o.m ∧ o.m ≤ 1000):=by
 unfold xk
 rw [decide_eq_true_iff]
end M
namespace M
open PySem L2
theorem zs0 : 0 ≤ sizeLine:=by decide
theorem zs1 : 1 ≤ sizeLine:=by decide
theorem zs2 : 2 ≤ sizeLine:=by decide
theorem zs3 : 3 ≤ sizeLine:=by decide
theorem zs4 : 4 ≤ sizeLine:=by decide
theorem zs5 : 5 ≤ sizeLine:=by decide
theorem zs6 : 6 ≤ sizeLine:=by decide
theorem zs7 : 7 ≤ sizeLine:=by decide
theorem zs9 : 9 ≤ sizeLine:=by decide
theorem j7c : 11 ≤ sizeLine:=by decide
theorem v8 {X:Cx} {e0 e1:Expr} {t0 t1:TE} (h0:PE X e0 t0) (h1:PE X e1 t1) (s0:isStar e0 = false:=by rfl) (s1:isStar e1 = false:=by rfl) : PA X [e0,e1] (vy t0 (vy t1 jz8)):=by
 refine jc h0 ?_ s0
 refine jc h1 ?_ s1
 exact jf
theorem jmy {X:Cx} {e0 e1 e2:Expr} {t0 t1 t2:TE} (h0:PE X e0 t0) (h1:PE X e1 t1) (h2:PE X e2 t2) (s0:isStar e0 = false:=by rfl) (s1:isStar e1 = false:=by rfl) (s2:isStar e2 = false:=by rfl) : PA X [e0,e1,e2] (vy t0 (vy t1 (vy t2 jz8))):=by
 refine jc h0 ?_ s0
 refine jc h1 ?_ s1
 refine jc h2 ?_ s2
 exact jf
theorem j7a {X:Cx} {e0 e1 e2 e3:Expr} {t0 t1 t2 t3:TE} (h0:PE X e0 t0) (h1:PE X e1 t1) (h2:PE X e2 t2) (h3:PE X e3 t3) (s0:isStar e0 = false:=by rfl) (s1:isStar e1 = false:=by rfl) (s2:isStar e2 = false:=by rfl) (s3:isStar e3 = false:=by rfl) : PA X [e0,e1,e2,e3] (vy t0 (vy t1 (vy t2 (vy t3 jz8)))):=by
 refine jc h0 ?_ s0
 refine jc h1 ?_ s1
 refine jc h2 ?_ s2
 refine jc h3 ?_ s3
 exact jf
theorem j6b {X:Cx} {e0 e1 e2 e3 e4:Expr} {t0 t1 t2 t3 t4:TE} (h0:PE X e0 t0) (h1:PE X e1 t1) (h2:PE X e2 t2) (h3:PE X e3 t3) (h4:PE X e4 t4) (s0:isStar e0 = false:=by rfl) (s1:isStar e1 = false:=by rfl) (s2:isStar e2 = false:=by rfl) (s3:isStar e3 = false:=by rfl) (s4:isStar e4 = false:=by rfl) : PA X [e0,e1,e2,e3,e4] (vy t0 (vy t1 (vy t2 (vy t3 (vy t4 jz8))))):=by
 refine jc h0 ?_ s0
 refine jc h1 ?_ s1
 refine jc h2 ?_ s2
 refine jc h3 ?_ s3
 refine jc h4 ?_ s4
 exact jf
theorem j75 {X:Cx} {e0 e1 e2 e3 e4 e5 e6:Expr} {t0 t1 t2 t3 t4 t5 t6:TE} (h0:PE X e0 t0) (h1:PE X e1 t1) (h2:PE X e2 t2) (h3:PE X e3 t3) (h4:PE X e4 t4) (h5:PE X e5 t5) (h6:PE X e6 t6) (s0:isStar e0 = false:=by rfl) (s1:isStar e1 = false:=by rfl) (s2:isStar e2 = false:=by rfl) (s3:isStar e3 = false:=by rfl) (s4:isStar e4 = false:=by rfl) (s5:isStar e5 = false:=by rfl) (s6:isStar e6 = false:=by rfl) : PA X [e0,e1,e2,e3,e4,e5,e6] (vy t0 (vy t1 (vy t2 (vy t3 (vy t4 (vy t5 (vy t6 jz8))))))):=by
 refine jc h0 ?_ s0
 refine jc h1 ?_ s1
 refine jc h2 ?_ s2
 refine jc h3 ?_ s3
 refine jc h4 ?_ s4
 refine jc h5 ?_ s5
 refine jc h6 ?_ s6
 exact jf
theorem j6x {X:Cx} {e0 e1 e2 e3 e4 e5 e6 e7 e8 e9 e10:Expr} {t0 t1 t2 t3 t4 t5 t6 t7 t8 t9 t10:TE} (h0:PE X e0 t0) (h1:PE X e1 t1) (h2:PE X e2 t2) (h3:PE X e3 t3) (h4:PE X e4 t4) (h5:PE X e5 t5) (h6:PE X e6 t6) (h7:PE X e7 t7) (h8:PE X e8 t8) (h9:PE X e9 t9) (h10:PE X e10 t10) (s0:isStar e0 = false:=by rfl) (s1:isStar e1 = false:=by rfl) (s2:isStar e2 = false:=by rfl) (s3:isStar e3 = false:=by rfl) (s4:isStar e4 = false:=by rfl) (s5:isStar e5 = false:=by rfl) (s6:isStar e6 = false:=by rfl) (s7:isStar e7 = false:=by rfl) (s8:isStar e8 = false:=by rfl) (s9:isStar e9 = false:=by rfl) (s10:isStar e10 = false:=by rfl) : PA X [e0,e1,e2,e3,e4,e5,e6,e7,e8,e9,e10] (vy t0 (vy t1 (vy t2 (vy t3 (vy t4 (vy t5 (vy t6 (vy t7 (vy t8 (vy t9 (vy t10 jz8))))))))))):=by
 refine jc h0 ?_ s0
 refine jc h1 ?_ s1
 refine jc h2 ?_ s2
 refine jc h3 ?_ s3
 refine jc h4 ?_ s4
 refine jc h5 ?_ s5
 refine jc h6 ?_ s6
 refine jc h7 ?_ s7
 refine jc h8 ?_ s8
 refine jc h9 ?_ s9
 refine jc h10 ?_ s10
 exact jf
def top (i:Nat) : Stmt:=PySem.Challenge.pw_manypurses_k05_whole_all_alike.main.body.getD i (.Pass ⟨0,0,0,0⟩)
abbrev je5:Stmt:=top 2
abbrev ja4:Stmt:=top 3
abbrev jh0:Stmt:=top 30
abbrev je3:Stmt:=top 31
abbrev jba:Stmt:=top 4
abbrev vh:Stmt:=top 5
abbrev yq:Stmt:=top 9
abbrev jk5:Stmt:=top 10
abbrev jfu:Stmt:=top 11
abbrev jfw:Stmt:=top 12
abbrev jes:Stmt:=top 41
abbrev yp:Stmt:=top 42
abbrev xq:Stmt:=inClass (top 19) 0
abbrev jay:Stmt:=top 46
abbrev ja1:Stmt:=top 47
abbrev yx:Stmt:=inClass (top 33) 0
abbrev xr:Stmt:=inClass (top 33) 4
abbrev jc6:Stmt:=inClass (top 33) 1
abbrev vg:Stmt:=inClass (top 33) 5
abbrev y9:Stmt:=inClass (top 35) 0
abbrev gm:Stmt:=inClass (top 35) 1
abbrev u3:Stmt:=inClass (top 35) 2
abbrev uh:Stmt:=inClass (top 35) 3
abbrev yb:Stmt:=inClass (top 37) 0
abbrev yt:Stmt:=inClass (top 37) 2
abbrev xf:Stmt:=inClass (top 37) 8
abbrev xo:Stmt:=inClass (top 37) 7
abbrev gi:Stmt:=inClass (top 37) 6
abbrev uk:Stmt:=inClass (top 37) 3
abbrev xg:Stmt:=inClass (top 37) 4
abbrev gu:Stmt:=inClass (top 48) 0
abbrev y6:Stmt:=inClass (top 48) 7
abbrev jaw:Stmt:=inClass (top 48) 1
abbrev gj:Stmt:=inClass (top 48) 13
abbrev x9:Stmt:=inClass (top 48) 20
abbrev ja3:Stmt:=inClass (top 48) 9
abbrev vm:Stmt:=inClass (top 48) 10
abbrev ui:Stmt:=inClass (top 48) 11
abbrev xh:Stmt:=inClass (top 48) 22
abbrev xa:Stmt:=inClass (top 48) 23
abbrev zx:Stmt:=inClass (top 48) 24
abbrev xm:Stmt:=inClass (top 48) 21
abbrev zl:Stmt:=inClass (top 48) 19
abbrev ye:Stmt:=inClass (top 48) 18
abbrev jcg:Stmt:=inClass (top 48) 3
abbrev jac:Stmt:=inClass (top 48) 4
abbrev jct:Stmt:=inClass (top 48) 5
abbrev jbe:Stmt:=inClass (top 48) 6
abbrev jbb:Stmt:=inClass (top 48) 8
abbrev yu:Stmt:=inClass (top 48) 16
abbrev jc9:Stmt:=top 50
abbrev jcq:Stmt:=top 51
abbrev jcl:Stmt:=top 52
abbrev gd:Stmt:=top 53
abbrev jcu:Stmt:=top 54
abbrev ja5:Stmt:=top 55
abbrev jdb:Stmt:=top 56
abbrev jab:Stmt:=top 57
abbrev ja9:Stmt:=top 58
abbrev jhs:Stmt:=top 59
abbrev y7:Stmt:=top 60
abbrev jyx:Stmt:=top 61
theorem juf:jo ["thing"] ["thing"] (jh je5):=fsc
theorem jr5:jo ["thing","low","high"] ["thing","low","high"] (jh ja4):=fsc
theorem jdf:jo ["thing","purses","purse","number","goal","much"] ["thing","purses"] (jh jh0):=fsc
theorem juk:jo ["order"] ["order"] (jh je3):=fsc
theorem jb5:jo ["things","bound","least","thing"] ["things","bound"] (jh jba):=fsc
theorem jnz:jo ["thing","bound"] ["thing","bound"] (jh vh):=fsc
theorem jl8:jo ["thing"] ["thing"] (jh yq):=fsc
theorem jyu:jo ["thing"] ["thing"] (jh jk5):=fsc
theorem jsv:jo ["houses","few"] ["houses","few"] (jh jfu):=fsc
theorem jsr:jo ["houses","few"] ["houses","few"] (jh jfw):=fsc
theorem juq:jo ["thing"] ["thing"] (jh jes):=fsc
theorem jl7:jo ["thing"] ["thing"] (jh yp):=fsc
theorem jkb:jo ["self","purse"] ["self","purse"] (jh xq):=fsc
theorem jpb:jo ["houses","few","liars"] ["houses","few","liars"] (jh jay):=fsc
theorem jov:jo ["sums","cheats"] ["sums","cheats"] (jh ja1):=fsc
theorem jmo:jo ["self","enough"] ["self","enough"] (jh yx):=fsc
theorem jkh:jo ["self","thing"] ["self","thing"] (jh xr):=fsc
theorem jng:jo ["self","house","thing","houses"] ["self","house","thing"] (jh jc6):=fsc
theorem jnp:jo ["self"] ["self"] (jh vg):=fsc
theorem jnq:jo ["self","sums"] ["self","sums"] (jh y9):=fsc
theorem jod:jo ["self","order"] ["self","order"] (jh gm):=fsc
theorem gg:jo ["self","order","purse","number","goal","much"] ["self","order"] (jh u3):=fsc
theorem gf:jo ["self","order","purse","number","goal","much"] ["self","order"] (jh uh):=fsc
theorem jkv:jo ["self","sums"] ["self","sums"] (jh yb):=fsc
theorem jmt:jo ["self","purse","orders"] ["self","purse","orders"] (jh yt):=fsc
theorem xx:jo ["self","votes","later","order"] ["self"] (jh xf):=fsc
theorem jch:jo ["self","order"] ["self"] (jh xo):=fsc
theorem jcv:jo ["self","order"] ["self"] (jh gi):=fsc
theorem jqh:jo ["self","order"] ["self","order"] (jh uk):=fsc
theorem jii:jo ["self","order"] ["self","order"] (jh xg):=fsc
theorem jls:jo ["self","houses","few","sums","liars","cheats"] ["self","houses","few","sums","liars","cheats"] (jh gu):=fsc
theorem jnv:jo ["self"] ["self"] (jh y6):=fsc
theorem jow:jo ["self"] ["self"] (jh gj):=fsc
theorem jk0:jo ["self","house"] ["self","house"] (jh x9):=fsc
theorem jr1:jo ["self","house"] ["self","house"] (jh ja3):=fsc
theorem jnu:jo ["self","house"] ["self","house"] (jh vm):=fsc
theorem jqe:jo ["self","house"] ["self","house"] (jh ui):=fsc
theorem jik:jo ["self","purse"] ["self","purse"] (jh xh):=fsc
theorem jil:jo ["self","purse","goal"] ["self","purse","goal"] (jh xa):=fsc
theorem jih:jo ["self","order"] ["self","order"] (jh zx):=fsc
theorem jj7:jo ["self","liar"] ["self","liar"] (jh xm):=fsc
theorem jbd:jo ["self","word","order","house"] ["self","word","order"] (jh zl):=fsc
theorem jdo:jo ["self","house","orders","order"] ["self","house","orders"] (jh ye):=fsc
theorem jg5:jo ["self","purse","goal","much","asked","order"] ["self","purse","goal","much"] (jh jcg):=fsc
theorem jqb:jo ["self","order","house"] ["self","order","house"] (jh jac):=fsc
theorem jtr:jo ["self","liar","order"] ["self","liar","order"] (jh jct):=fsc
theorem jrs:jo ["self","order","house"] ["self","order","house"] (jh jbe):=fsc
theorem wa:jo ["self","at","letter","word","house","order","keeper"] ["self","at"] (jh jbb):=fsc
theorem jl9:jo ["self"] ["self"] (jh yu):=fsc
theorem jsz:jo ["_law_script"] ["_law_script"] (jh jc9):=fsc
theorem pe:jo ["_law_town_here","_law_many","_law_row","_law_at","_law_cell","_law_mixed"] ["_law_town_here","_law_many"] (jh jcq):=fsc
theorem jtz:jo ["_law_town_here","_law_some_here"] ["_law_town_here","_law_some_here"] (jh jcl):=fsc
theorem xy:jo ["_law_caught","_law_kinds","_law_words"] ["_law_caught"] (jh gd):=fsc
theorem jgw:jo ["_law_town_here","_law_size","_law_most","_law_found","_law_one"] ["_law_town_here","_law_size","_law_most"] (jh jcu):=fsc
theorem yk:jo ["_law_town_here","_law_some_here","_law_crew","_law_foes","_law_begin","_law_rogues","_law_world_here"] ["_law_town_here"] (jh ja5):=fsc
theorem qm:jo ["_law_kind","_law_world_here","_law_one","_law_two","_law_three","_law_told_here","_law_caught","e"] ["_law_kind","_law_world_here","_law_one","_law_two","_law_three"] (jh jdb):=fsc
theorem jio:jo ["_law_town_here","_law_world_here","_law_there"] ["_law_town_here","_law_world_here"] (jh jab):=fsc
theorem jfx:jo ["_law_town_here","_law_parts","_law_purse","_law_many","_law_goal"] ["_law_town_here","_law_parts","_law_purse"] (jh ja9):=fsc
theorem zt:jo ["_law_town_here","_law_parts","_law_share","_law_world_here","_law_crew","_law_some_here","_law_foes","_law_honest","_law_begin","_law_rogues","_law_many","_law_kind","_law_order_here","_law_purse","_law_goal"] ["_law_town_here","_law_parts","_law_share"] (jh jhs):=fsc
theorem jgj:jo ["_law_town_here","_law_world_here","_law_turn"] ["_law_town_here","_law_world_here"] (jh y7):=fsc
theorem y8:jo ["_law_script","_law_town_here","_law_parts","_law_world_here","_law_crew","_law_some_here","_law_foes","_law_honest","_law_begin","_law_rogues","_law_share","_law_turn","_law_ahead","_law_house","_law_first","_law_done","_law_purse","_law_number","_law_goal","_law_much","_law_have"] ["_law_script"] (jh jyx):=fsc
theorem j77:(["thing","self"] : List Str).Nodup:=by decide +kernel
theorem j7u:(["order","self"] : List Str).Nodup:=by decide +kernel
theorem j7v:(["keeper","purse","asked"] : List Str).Nodup:=by decide +kernel
theorem j71:(["each"] : List Str).Nodup:=by decide +kernel
theorem j8a:(["each"] : List Str).Nodup:=by decide +kernel
theorem j7p:(["house","sums","liars"] : List Str).Nodup:=by decide +kernel
theorem j8n:(["_law_k","_law_foes"] : List Str).Nodup:=by decide +kernel
theorem j8e:(["_law_k","_law_town_here"] : List Str).Nodup:=by decide +kernel
theorem j74:(["_law_order_here","_law_done"] : List Str).Nodup:=by decide +kernel
theorem j8k:(["_law_order_here","_law_purse"] : List Str).Nodup:=by decide +kernel
theorem boot_isinstance:bootBuiltins "isinstance" = some (.builtin "isinstance"):=by decide +kernel
theorem boot_bool:bootBuiltins "bool" = some (.type "bool"):=by decide +kernel
theorem boot_int:bootBuiltins "int" = some (.type "int"):=by decide +kernel
theorem boot_len:bootBuiltins "len" = some (.builtin "len"):=by decide +kernel
theorem boot_tuple:bootBuiltins "tuple" = some (.type "tuple"):=by decide +kernel
theorem boot_sorted:bootBuiltins "sorted" = some (.builtin "sorted"):=by decide +kernel
theorem boot_list:bootBuiltins "list" = some (.type "list"):=by decide +kernel
theorem boot_sum:bootBuiltins "sum" = some (.builtin "sum"):=by decide +kernel
theorem boot_max:bootBuiltins "max" = some (.builtin "max"):=by decide +kernel
theorem boot_all:bootBuiltins "all" = some (.builtin "all"):=by decide +kernel
theorem jo9:bootBuiltins "ValueError" = some (.type "ValueError"):=by decide +kernel
set_option genInjectivity false in
structure Ad where
 jme:Addr
 jmi:FuncData
 jhy:Addr
 jg2:FuncData
 jlu:Addr
 jh2:FuncData
 jl2:Addr
 jmn:FuncData
 jhu:Addr
 jho:FuncData
 jdj:Addr
 jcr:FuncData
 jbp:Addr
 jbr:FuncData
 jrk:Addr
 jrn:FuncData
 jjb:Addr
 jja:FuncData
 jjr:Addr
 jjv:FuncData
 jmq:Addr
 jmj:FuncData
 jbn:Addr
 jbi:FuncData
 ud:Addr
 uf:FuncData
 jea:Addr
 jeb:FuncData
 jek:Addr
 jee:FuncData
 gs:Addr
 jbk:FuncData
 ug:Addr
 uu:FuncData
 jki:Addr
 jj2:FuncData
 jc5:Addr
 jdm:FuncData
 vf:Addr
 jdd:FuncData
 jax:Addr
 jd9:FuncData
 jb9:Addr
 jf0:FuncData
 jca:Addr
 jfh:FuncData
 v3:Addr
 jah:FuncData
 jbo:Addr
 jbg:FuncData
 kg:Addr
 ki:FuncData
 uz:Addr
 jad:FuncData
 jd3:Addr
 jen:FuncData
 je9:Addr
 jfg:FuncData
 ky:Addr
 kn:FuncData
 gp:Addr
 jbq:FuncData
 jc3:Addr
 jcw:FuncData
 jiw:Addr
 jix:FuncData
 jd4:Addr
 jeg:FuncData
 jap:Addr
 jaq:FuncData
 jhd:Addr
 jgo:FuncData
 jco:Addr
 jc4:FuncData
 jfm:Addr
 jft:FuncData
 kq:Addr
 ku:FuncData
 gy:Addr
 gz:FuncData
 ka:Addr
 g6:FuncData
 uy:Addr
 um:FuncData
 wq:Addr
 wo:FuncData
 jaj:Addr
 jal:FuncData
 jje:Addr
 jjm:FuncData
 jfn:Addr
 jf1:FuncData
 jji:Addr
 jjp:FuncData
 jhm:Addr
 jhb:FuncData
 jg0:Addr
 jg9:FuncData
 jbt:Addr
 jbl:FuncData
 jjn:Addr
 jjo:FuncData
 jju:Addr
 jjk:FuncData
 jj3:Addr
 jkk:FuncData
 jd8:Addr
 jd7:FuncData
 jke:Addr
 jjw:FuncData
 jg6:Addr
 jgy:FuncData
 jjs:Addr
 jjl:FuncData
 jfv:Addr
 jfk:FuncData
 jgu:Addr
 jhg:FuncData
 jpj:Addr
 jok:FuncData
 jck:Addr
 jdg:FuncData
 j3a:Addr
 j2j:FuncData
 jam:Addr
 j3:Addr
 jy:Addr
 jgt:Addr
 xc:Addr
 vb:Addr
 p9:Addr
 vc:Addr
 jri:Addr
 jo6:Addr
 jlr:Addr
 jof:Addr
 jl1:Addr
 jjy:Addr
 jlp:Addr
 jjh:Addr
def asked (t:Ad) : List Value:=[.ref t.jjy,.ref t.jlp,.ref t.jjh,.ref t.jof,.ref t.xc,.ref t.jl1,.ref t.p9,.ref t.vb,.ref t.jlr,.ref t.jri,.ref t.jo6,.ref t.vc,.type "ValueError"]
structure Txt (K:W.Frag) (mg:Str → Option Value) (t:Ad) : Prop where
 jey:Fun K "is_whole" "is_whole" je5 t.jme t.jmi
 jh4:mg "is_whole" = some (.ref t.jme)
 jhz:Binds K t.jmi ["thing"] []
 ql:Fun K "is_between" "is_between" ja4 t.jhy t.jg2
 qr:mg "is_between" = some (.ref t.jhy)
 qt:Binds K t.jg2 ["thing","low","high"] []
 jez:Fun K "is_order" "is_order" jh0 t.jlu t.jh2
 jh7:mg "is_order" = some (.ref t.jlu)
 jgs:jf5 K t.jh2 ["thing","purses"] ["purses"] jwv jwv
 jnd : ∃ tk,Binds K t.jh2 ["thing","purses"] [.int 8 tk]
 je4:Fun K "place_of" "place_of" je3 t.jl2 t.jmn
 jh6:mg "place_of" = some (.ref t.jl2)
 jia:Binds K t.jmn ["order"] []
 jg8:Fun K "are_rising" "are_rising" jba t.jhu t.jho
 jnh:mg "are_rising" = some (.ref t.jhu)
 jna:Binds K t.jho ["things","bound"] []
 ub:Fun K "is_rising_row" "is_rising_row" vh t.jdj t.jcr
 jc8:mg "is_rising_row" = some (.ref t.jdj)
 jcf:Binds K t.jcr ["thing","bound"] []
 jbv:Fun K "is_house_count" "is_house_count" yq t.jbp t.jbr
 jgc:mg "is_house_count" = some (.ref t.jbp)
 jgi:Binds K t.jbr ["thing"] []
 jq7:Fun K "is_few" "is_few" jk5 t.jrk t.jrn
 jvd:mg "is_few" = some (.ref t.jrk)
 jvc:Binds K t.jrn ["thing"] []
 jj8:Fun K "outnumber" "outnumber" jfu t.jjb t.jja
 jph:mg "outnumber" = some (.ref t.jjb)
 jlh:jf5 K t.jja ["houses","few"] ["few"] jwv jwv
 jj4:Fun K "enough_of" "enough_of" jfw t.jjr t.jjv
 jpp:mg "enough_of" = some (.ref t.jjr)
 jku:jf5 K t.jjv ["houses","few"] ["few"] jwv jwv
 jmk:Fun K "are_sums" "are_sums" jes t.jmq t.jmj
 jqt:mg "are_sums" = some (.ref t.jmq)
 jqp:Binds K t.jmj ["thing"] []
 jbj:Fun K "are_first_sums" "are_first_sums" yp t.jbn t.jbi
 jf4:mg "are_first_sums" = some (.ref t.jbn)
 jgh:Binds K t.jbi ["thing"] []
 jdz:Fun K "__init__" "NoPurse.__init__" xq t.ud t.uf
 jkn:jz9 K t.xc t.ud "purse"
 jdq:Binds K t.uf ["self","purse"] []
 jec:Fun K "check_houses" "check_houses" jay t.jea t.jeb
 ji9:mg "check_houses" = some (.ref t.jea)
 jga:jf5 K t.jeb ["houses","few","liars"] ["few","liars"] j3l j3l
 jel:Fun K "check_purses" "check_purses" ja1 t.jek t.jee
 ji5:mg "check_purses" = some (.ref t.jek)
 jf7:jf5 K t.jee ["sums","cheats"] ["cheats"] jwv jwv
 jgl:Fun K "__init__" "Board.__init__" yx t.gs t.jbk
 jmr:Meth K t.jam "__init__" t.gs
 jvi:Mk K t.jam t.gs
 jgd:Binds K t.jbk ["self","enough"] []
 jdu:Fun K "is_carried" "Board.is_carried" xr t.ug t.uu
 yl:Meth K t.jam "is_carried" t.ug
 y3:Binds K t.uu ["self","thing"] []
 jou:Fun K "put" "Board.put" jc6 t.jki t.jj2
 jm9:Meth K t.jam "put" t.jki
 joh:Binds K t.jj2 ["self","house","thing"] []
 jhv:Fun K "carried" "Board.carried" vg t.jc5 t.jdm
 jf3:Meth K t.jam "carried" t.jc5
 jhw:Binds K t.jdm ["self"] []
 jhr:Fun K "__init__" "Book.__init__" y9 t.vf t.jdd
 jnl:Meth K t.jgt "__init__" t.vf
 j2z:Mk K t.jgt t.vf
 jht:Binds K t.jdd ["self","sums"] []
 jiu:Fun K "is_past" "Book.is_past" gm t.jax t.jd9
 joj:Meth K t.jgt "is_past" t.jax
 jau:Binds K t.jd9 ["self","order"] []
 jky:Fun K "is_due" "Book.is_due" u3 t.jb9 t.jf0
 jp9:Meth K t.jgt "is_due" t.jb9
 jfa:Binds K t.jf0 ["self","order"] []
 jkw:Fun K "settle" "Book.settle" uh t.jca t.jfh
 jqd:Meth K t.jgt "settle" t.jca
 jk3:Binds K t.jfh ["self","order"] []
 je6:Fun K "__init__" "Keeper.__init__" yb t.v3 t.jah
 jll:Meth K t.j3 "__init__" t.v3
 jth:Mk K t.j3 t.v3
 jeq:Binds K t.jah ["self","sums"] []
 jf6:Fun K "left_of" "Keeper.left_of" yt t.jbo t.jbg
 jet:Meth K t.j3 "left_of" t.jbo
 jge:Binds K t.jbg ["self","purse","orders"] []
 jc2:Fun K "give_votes" "Keeper.give_votes" xf t.kg t.ki
 gb:Meth K t.j3 "give_votes" t.kg
 kh:Binds K t.ki ["self"] []
 jds:Fun K "first_due" "Keeper.first_due" xo t.uz t.jad
 kj:Meth K t.j3 "first_due" t.uz
 jaa:Binds K t.jad ["self"] []
 jir:Fun K "go_on" "Keeper.go_on" gi t.jd3 t.jen
 jhx:Meth K t.j3 "go_on" t.jd3
 ji0:Binds K t.jen ["self"] []
 jk7:Fun K "hear" "Keeper.hear" uk t.je9 t.jfg
 jit:Meth K t.j3 "hear" t.je9
 jlo:Binds K t.jfg ["self","order"] []
 jdk:Fun K "take_paper" "Keeper.take_paper" xg t.ky t.kn
 jbw:Meth K t.j3 "take_paper" t.ky
 jdl:Binds K t.kn ["self","order"] []
 jf9:Fun K "__init__" "World.__init__" gu t.gp t.jbq
 jma:Meth K t.jy "__init__" t.gp
 jvm:Mk K t.jy t.gp
 jdv:jf5 K t.jbq ["self","houses","few","sums","liars","cheats"] ["few","sums","liars","cheats"] j5n j5n
 jg1:Fun K "letters" "World.letters" y6 t.jc3 t.jcw
 gq:Meth K t.jy "letters" t.jc3
 uj:Binds K t.jcw ["self"] []
 jqf:Fun K "honest" "World.honest" jaw t.jiw t.jix
 joc:Meth K t.jy "honest" t.jiw
 jp8:Binds K t.jix ["self"] []
 ji7:Fun K "papers" "World.papers" gj t.jd4 t.jeg
 jcm:Meth K t.jy "papers" t.jd4
 jd5:Binds K t.jeg ["self"] []
 jeu:Fun K "keeper_of" "World.keeper_of" x9 t.jap t.jaq
 zd:Meth K t.jy "keeper_of" t.jap
 zw:Binds K t.jaq ["self","house"] []
 jm7:Fun K "sums" "World.sums" ja3 t.jhd t.jgo
 jcb:Meth K t.jy "sums" t.jhd
 jdx:Binds K t.jgo ["self","house"] []
 jgq:Fun K "settled" "World.settled" vm t.jco t.jc4
 gw:Meth K t.jy "settled" t.jco
 uw:Binds K t.jc4 ["self","house"] []
 jlf:Fun K "waits" "World.waits" ui t.jfm t.jft
 jat:Meth K t.jy "waits" t.jfm
 jcc:Binds K t.jft ["self","house"] []
 jcp:Fun K "check_purse" "World.check_purse" xh t.kq t.ku
 wj:Meth K t.jy "check_purse" t.kq
 kb:Binds K t.ku ["self","purse"] []
 jcy:Fun K "check_asker" "World.check_asker" xa t.gy t.gz
 jb3:Meth K t.jy "check_asker" t.gy
 jcn:Binds K t.gz ["self","purse","goal"] []
 jcz:Fun K "check_order" "World.check_order" zx t.ka t.g6
 w4:Meth K t.jy "check_order" t.ka
 kc:Binds K t.g6 ["self","order"] []
 jd1:Fun K "check_liar" "World.check_liar" xm t.uy t.um
 jdn:Meth K t.jy "check_liar" t.uy
 jdr:Binds K t.um ["self","liar"] []
 jbz:Fun K "write_to_all" "World.write_to_all" zl t.wq t.wo
 vp:Meth K t.jy "write_to_all" t.wq
 wu:Binds K t.wo ["self","word","order"] []
 je2:Fun K "put_votes" "World.put_votes" ye t.jaj t.jal
 y0:Meth K t.jy "put_votes" t.jaj
 v9:Binds K t.jal ["self","house","orders"] []
 joi:Fun K "ask" "World.ask" jcg t.jje t.jjm
 jgz:Meth K t.jy "ask" t.jje
 jjg:Binds K t.jjm ["self","purse","goal","much"] []
 jk1:Fun K "cheat" "World.cheat" jac t.jfn t.jf1
 jiq:Meth K t.jy "cheat" t.jfn
 jk6:Binds K t.jf1 ["self","order","house"] []
 jpq:Fun K "lie" "World.lie" jct t.jji t.jjp
 jdw:Meth K t.jy "lie" t.jji
 jfs:Binds K t.jjp ["self","liar","order"] []
 jm1:Fun K "show" "World.show" jbe t.jhm t.jhb
 jlk:Meth K t.jy "show" t.jhm
 jm3:Binds K t.jhb ["self","order","house"] []
 jnk:Fun K "come" "World.come" jbb t.jg0 t.jg9
 jks:Meth K t.jy "come" t.jg0
 jni:Binds K t.jg9 ["self","at"] []
 jf8:Fun K "is_still" "World.is_still" yu t.jbt t.jbl
 jev:Meth K t.jy "is_still" t.jbt
 jgb:Binds K t.jbl ["self"] []
 jkm:Fun K "_law_town" "_law_town" jc9 t.jjn t.jjo
 jo2:mg "_law_town" = some (.ref t.jjn)
 joo:Binds K t.jjo ["_law_script"] []
 qb:Fun K "_law_draw" "_law_draw" jcq t.jju t.jjk
 qh:mg "_law_draw" = some (.ref t.jju)
 qg:Binds K t.jjk ["_law_town_here","_law_many"] []
 qz:Fun K "_law_pick" "_law_pick" jcl t.jj3 t.jkk
 zi:mg "_law_pick" = some (.ref t.jj3)
 zh:Binds K t.jkk ["_law_town_here","_law_some_here"] []
 jav:Fun K "_law_refusal" "_law_refusal" gd t.jd8 t.jd7
 jed:mg "_law_refusal" = some (.ref t.jd8)
 jd2:Binds K t.jd7 ["_law_caught"] []
 jff:Fun K "_law_some" "_law_some" jcu t.jke t.jjw
 jka:mg "_law_some" = some (.ref t.jke)
 jkl:Binds K t.jjw ["_law_town_here","_law_size","_law_most"] []
 jgp:Fun K "_law_world" "_law_world" ja5 t.jg6 t.jgy
 jnb:mg "_law_world" = some (.ref t.jg6)
 jmv:Binds K t.jgy ["_law_town_here"] []
 jfj:Fun K "_law_told" "_law_told" jdb t.jjs t.jjl
 jjc:mg "_law_told" = some (.ref t.jjs)
 jjt:Binds K t.jjl ["_law_kind","_law_world_here","_law_one","_law_two","_law_three"] []
 jb7:Fun K "_law_letter" "_law_letter" jab t.jfv t.jfk
 jfb:mg "_law_letter" = some (.ref t.jfv)
 jfo:Binds K t.jfk ["_law_town_here","_law_world_here"] []
 jgr:Fun K "_law_order" "_law_order" ja9 t.jgu t.jhg
 jm2:mg "_law_order" = some (.ref t.jgu)
 jm6:Binds K t.jhg ["_law_town_here","_law_parts","_law_purse"] []
 joz:Fun K "_law_go" "_law_go" jhs t.jpj t.jok
 jte:mg "_law_go" = some (.ref t.jpj)
 jtc:Binds K t.jok ["_law_town_here","_law_parts","_law_share"] []
 jc1:Fun K "_law_all_come" "_law_all_come" y7 t.jck t.jdg
 jhf:mg "_law_all_come" = some (.ref t.jck)
 jg4:Binds K t.jdg ["_law_town_here","_law_world_here"] []
 j4e:Fun K "law" "law" jyx t.j3a t.j2j
 j3s:mg "law" = some (.ref t.j3a)
 j5x:Binds K t.j2j ["_law_script"] []
 jkg : ∃ tk,mg "MOST_MUCH" = some (.int 1000 tk)
 jfz : ∃ tk,mg "LAST_NUMBER" = some (.int 99 tk)
 jem : ∃ tk,mg "PAPER_LETTER" = some (.str "paper" tk)
 jar : ∃ tk,mg "ORDER_LETTER" = some (.str "order" tk)
 jkq : ∃ tk,mg "MOST_HOUSES" = some (.int 16 tk)
 jqv : ∃ tk,mg "MOST_FEW" = some (.int 5 tk)
 jf2 : ∃ tk,mg "MOST_FIRST_SUM" = some (.int 1000 tk)
 jis : ∃ tk,mg "LEAST_PURSES" = some (.int 2 tk)
 jkp : ∃ tk,mg "MOST_PURSES" = some (.int 8 tk)
 jyd:mg "Board" = some (.ref t.jam)
 yj:Cls K t.jam
 x8:yh K t.jam "enough"
 yo:yh K t.jam "signers"
 ju2:mg "Keeper" = some (.ref t.j3)
 jm:Cls K t.j3
 xu:yh K t.j3 "held"
 qw:yh K t.j3 "next_numbers"
 ja2:yh K t.j3 "done"
 jae:yh K t.j3 "heard"
 yc:yh K t.j3 "unvoted"
 zv:yh K t.j3 "choices"
 za:yh K t.j3 "waiting"
 jxp:mg "World" = some (.ref t.jy)
 ji:Cls K t.jy
 vk:yh K t.jy "purses"
 ji6:yh K t.jy "total"
 jei:yh K t.jy "lying"
 ya:yh K t.jy "cheating"
 ze:yh K t.jy "keepers"
 yy:yh K t.jy "board"
 jas:yh K t.jy "asked"
 qq:yh K t.jy "on_way"
 j1h:mg "Book" = some (.ref t.jgt)
 j2g:Cls K t.jgt
 jsy:yh K t.jgt "held"
 jim:yh K t.jgt "next_numbers"
 js5:yh K t.jgt "done"
 jbu:Meth K t.j3 "is_due" t.jb9
 vz:Meth K t.j3 "is_past" t.jax
 jgg:Meth K t.j3 "settle" t.jca
 jgk:j69 K t.jgt "__init__" t.vf
 jpf:mg "NoPurse" = some (.ref t.xc)
 joy:mg "TooMuch" = some (.ref t.vb)
 jrq:mg "NotNow" = some (.ref t.p9)
 jdt:mg "PurseError" = some (.ref t.vc)
 jvn:mg "BadCut" = some (.ref t.jri)
 js3:mg "BadText" = some (.ref t.jo6)
 jq0:mg "BadPaper" = some (.ref t.jlr)
 jtn:mg "NoHouse" = some (.ref t.jof)
 jqj:mg "NoLetter" = some (.ref t.jl1)
 jo8:mg "BadNumber" = some (.ref t.jjy)
 jqo:mg "BadOrder" = some (.ref t.jlp)
 joe:mg "BadHouses" = some (.ref t.jjh)
 jqq:XIs K t.xc
 jqr:kinds K (.ref t.xc) (asked t) = [some false,some false,some false,some false,some true,some false,some false,some false,some false,some false,some false,some true,some true]
 ja7:W.kitCls K (.ref t.xc) (.ref t.vc) = some true
 jsc:j5p K t.vb
 jqz:XIs K t.vb
 jqu:kinds K (.ref t.vb) (asked t) = [some false,some false,some false,some false,some false,some false,some false,some true,some false,some false,some false,some true,some true]
 jbc:W.kitCls K (.ref t.vb) (.ref t.vc) = some true
 jvp:j5p K t.p9
 jr9:XIs K t.p9
 jss:kinds K (.ref t.p9) (asked t) = [some false,some false,some false,some false,some false,some false,some true,some false,some false,some false,some false,some true,some true]
 jb2:W.kitCls K (.ref t.p9) (.ref t.vc) = some true
 jfd:W.mroIn K t.vc (.type "BaseException") = some true
 j5:mg "isinstance" = none
 j1i:mg "bool" = none
 j3z:mg "int" = none
 jeo:mg "len" = none
 jub:mg "tuple" = none
 jk8:mg "sorted" = none
 jiz:mg "list" = none
 j1v:mg "sum" = none
 j4w:mg "max" = none
 j4s:mg "all" = none
 jjj:mg "range" = none
 jm4:mg "ValueError" = none
def jn9 (o:O) : List V:=[.int o.p,.int o.n,.int o.g,.int o.m]
def j62 (H:Hp) (x:V) (o:O) : Prop:=∃ a,x = .ref a ∧ H a = some (.tup (jn9 o))
theorem jg {H:Hp} {p:Addr} {o:HO} (h:H p = none) : wz H (upd H p o):=fun b u e=>by rw [je (jk e h)]; exact e
theorem nd {c:Prop} [Decidable c] (h:(!decide c) = true) : ¬ c:=fun z=>by rw [decide_eq_true z] at h; cases h
theorem yd {c:Prop} [Decidable c] (h : ¬ (!decide c) = true) : c:=by
 by_cases z:c
 ·exact z
 ·exact absurd (by rw [decide_eq_false z]; rfl) h
theorem j5a {b:Bool} {A B:Prop} (e:b = true) (h:B) : if (!b) = true then A else B:=by subst e; exact pq h
theorem take_snoc {α : Type} {l:List α} {i:Nat} {x : α} (h:l[i]? = some x) : l.take (i + 1) = l.take i ++ [x]:=by rw [List.take_add_one,h]; rfl
theorem ju1 (s:List Int) (i:Nat) (z:Int) : (s.map V.int).set i (.int z) = (s.set i z).map V.int:=by rw [List.map_set]
theorem get_map {s:List Int} {i:Nat} (h:i < s.length) : (s.map V.int)[i]? = some (.int (s.getD i 0)):=by
 rw [List.getElem?_map,List.getElem?_eq_getElem h,List.getD_eq_getElem?_getD,List.getElem?_eq_getElem h]
 rfl
theorem js4 {n:Nat} {i:Int} (h0 : 0 ≤ i) (h1:i.toNat < n) : ixN n i = some i.toNat:=by
 unfold ixN
 rw [if_pos h0,if_pos (by omega)]
theorem jhn {α : Type} {xs:List α} {i:Int} {v : α} (h0 : 0 ≤ i) (h:xs[i.toNat]? = some v) : atI xs i = some v:=by
 unfold atI
 rw [js4 h0 (List.getElem?_eq_some_iff.mp h).1]
 exact h
theorem jmm {n:Nat} (h:n ≤ 1000) : n ≤ sizeLine:=Nat.le_of_lt (xt h)
def jpy (T R:Addr) (H:Hp) : Prop:=∃ (row:List Int) (c:Int),H T = some (.lst [.ref R,.int c]) ∧ H R = some (.lst (row.map V.int)) ∧ 0 < row.length
def jp4 (T R:Addr) (H H':Hp) : Prop:=∀ b o,H b = some o → b ≠ T → b ≠ R → H' b = some o
theorem jpy.ne {T R:Addr} {H:Hp} (h:jpy T R H) : T ≠ R:=by
 obtain ⟨row,c,h1,h2,h3⟩:=h
 refine jlw h1 h2 fun e=>?_
 have e':=HO.lst.inj e
 cases row with
 | nil=>cases h3
 | cons x r=>rw [List.map_cons] at e'; cases (List.cons.inj e').1
theorem jpy.same {T R:Addr} {H H':Hp} (h:jpy T R H) (s:wz H H') : jpy T R H':=by
 obtain ⟨row,c,h1,h2,h3⟩:=h
 exact ⟨row,c,s _ _ h1,s _ _ h2,h3⟩
theorem jpy.fresh {T R b:Addr} {H:Hp} (h:jpy T R H) (hb:H b = none) : b ≠ T ∧ b ≠ R:=by
 obtain ⟨row,c,h1,h2,h3⟩:=h
 exact ⟨(jk h1 hb).symm,(jk h2 hb).symm⟩
def jt6:Sp:=fun vs H Q _=>∃ i,vs = [.int i] ∧ Q (.bl true) H
def jrv:Sp:=fun vs H Q _=>∃ i l h,vs = [.int i,.int l,.int h] ∧ Q (.bl (decide (l ≤ i ∧ i ≤ h))) H
def jur:Sp:=fun vs H Q _=>∃ a o q,vs = [.ref a,.int q] ∧ H a = some (.tup (jn9 o)) ∧ Q (.bl (xk q o)) H
def jt4:Sp:=fun vs H Q _=>∃ a o,vs = [.ref a] ∧ H a = some (.tup (jn9 o)) ∧ xk 8 o = true ∧ ∀ p,H p = none → Q (.ref p) (upd H p (.tup [.int o.p,.int o.n]))
theorem jjz (T:Txt K mg t) : yf P w K mg base CX0 1 t.jme t.jmi ["thing"] jt6:=by
 refine T.jey.ok juf (fun vs H Q E h=>?_) (fun cdv A outer s H vs Q E hr h=>?_)
 ·obtain ⟨i,rfl,_⟩:=h
  rfl
 ·obtain ⟨i,rfl,q⟩:=h
  refine ⟨_,(@jd _ _ _ (j4 (jpo (jt jfc rfl T.j5 boot_isinstance (@v8 _ _ _ _ _ (pv 0) (jjx (v:=.ty "int") rfl T.j3z boot_int rfl) rfl rfl)) (jql (j4g (jt jfc rfl T.j5 boot_isinstance (@v8 _ _ _ _ _ (pv 0) (jjx (v:=.ty "bool") rfl T.j1i boot_bool rfl) rfl rfl))))))),?_⟩
  refine ⟨_,rfl,_,_,_,true,rfl,.int _,rfl,_,rfl,jno ?_⟩
  exact ⟨_,rfl,_,_,_,false,rfl,.int _,rfl,_,rfl,q⟩
theorem qp (T:Txt K mg t) : yf P w K mg base CX0 2 t.jhy t.jg2 ["thing","low","high"] jrv:=by
 refine T.ql.ok jr5 (fun vs H Q E h=>?_) (fun cdv A outer s H vs Q E hr h=>?_)
 ·obtain ⟨i,l,h,rfl,_⟩:=h
  rfl
 ·obtain ⟨i,l,u,rfl,q⟩:=h
  refine ⟨_,(@jd _ _ _ (j4 (jpo (jq (jjz T) hr.dn rfl T.jh4 T.jey.kp T.jhz .nil jr (jc (pv 0) jf)) (jql (jz2 jx0 jx0 (pv 1) (pv 0) (pv 2)))))),?_⟩
  refine ⟨_,rfl,i,rfl,_,rfl,jno ?_⟩
  refine ⟨_,rfl,_,rfl,_,_,rfl,rfl,_,rfl,?_⟩
  refine jgn (fun h1=>?_) (fun h1=>?_)
  ·refine ⟨_,rfl,_,_,rfl,rfl,?_⟩
   have e:decide (l ≤ i ∧ i ≤ u) = decide (i ≤ u):=by
    have h1':=of_decide_eq_true h1
    simp [h1']
   rw [e] at q
   exact q
  ·have e:decide (l ≤ i ∧ i ≤ u) = false:=by
    have h1' : ¬ l ≤ i:=fun z=>h1 (decide_eq_true z)
    simp [h1']
   rw [e] at q
   exact q
theorem jkc (T:Txt K mg t) : yf P w K mg base CX0 3 t.jlu t.jh2 ["thing","purses"] jur:=by
 refine T.jez.ok jdf (fun vs H Q E h=>?_) (fun cdv A outer s H vs Q E hr h=>?_)
 ·obtain ⟨a,o,q,rfl,_⟩:=h
  rfl
 ·obtain ⟨a,o,q,rfl,ha,k⟩:=h
  refine ⟨_,(@jb _ _ _ _ _ (zo (PW.pt (jko (yi (xb (jt jfc rfl T.j5 boot_isinstance (@v8 _ _ _ _ _ (pv 0) (jjx (v:=.ty "tuple") rfl T.jub boot_tuple rfl) rfl rfl)))) (je7 (jw j1z (jt jz rfl T.jeo boot_len (jc (pv 0) jf)) jn (qf _))))) (@jd _ _ _ (j4 jkd)) qc)
   (@jb _ _ _ _ _ (jm8 (pv 0) (jpc rfl (j7 (ju (i:=2) jdf.nd rfl (Or.inl rfl)) (j7 (ju (i:=3) jdf.nd rfl (Or.inl rfl)) (j7 (ju (i:=4) jdf.nd rfl (Or.inl rfl)) (j7 (ju (i:=5) jdf.nd rfl (Or.inl rfl)) jj6))))))
   (@jb _ _ _ _ _ (zo (PW.pt (jko (yi (xb (jq (qp T) hr.dn rfl T.qr T.ql.kp T.qt .nil jr (@jmy _ _ _ _ _ _ _ (pv 2) jn (xn jlm (pv 1) jn) rfl rfl rfl)))) (je7 (yi (xb (jq (qp T) hr.dn rfl T.qr T.ql.kp T.qt .nil jr (@jmy _ _ _ _ _ _ _ (pv 4) jn (xn jlm (pv 1) jn) rfl rfl rfl))))))) (@jd _ _ _ (j4 jkd)) qc)
   (@jd _ _ _ (j4 (jpo (jeh j1z (pv 2) (pv 4) (qf _)) (jpo (jq (qp T) hr.dn rfl T.qr T.ql.kp T.qt .nil jr (@jmy _ _ _ _ _ _ _ (pv 3) jn (zc (v:=.int 99) rfl T.jfz.choose_spec ⟨_,rfl⟩) rfl rfl rfl)) (jql (jq (qp T) hr.dn rfl T.qr T.ql.kp T.qt .nil jr (@jmy _ _ _ _ _ _ _ (pv 5) jn (zc (v:=.int 1000) rfl T.jkg.choose_spec ⟨_,rfl⟩) rfl rfl rfl)))))))))),?_⟩
  refine ⟨_,rfl,_,_,_,true,rfl,.tup ha,rfl,_,rfl,?_⟩
  refine pq ?_
  refine ⟨_,rfl,a,jn9 o,rfl,.inr (SqT.of ha),rfl,_,rfl,?_⟩
  refine pq ?_
  refine ⟨_,rfl,a,jn9 o,rfl,SqT.of ha,rfl,_,_,rfl,_,_,rfl,_,_,rfl,_,_,rfl,rfl,?_⟩
  have fin : ∀ b,b = xk q o → Q (.bl b) H:=fun b e=>e ▸ k
  refine ⟨_,rfl,_,rfl,_,_,rfl,rfl,_,_,_,rfl,_,rfl,?_⟩
  refine jgn (fun h1=>fin _ ?_) (fun h1=>?_)
  ·have z:=nd h1
   unfold xk
   exact (decide_eq_false (fun h=>z ⟨h.1,h.2.1⟩)).symm
  have z1:=yd h1
  refine ⟨_,rfl,_,rfl,_,_,rfl,rfl,_,_,_,rfl,_,rfl,?_⟩
  refine jgn (fun h2=>fin _ ?_) (fun h2=>?_)
  ·have z:=nd h2
   unfold xk
   exact (decide_eq_false (fun h=>z ⟨h.2.2.1,h.2.2.2.1⟩)).symm
  have z2:=yd h2
  refine ⟨_,rfl,_,rfl,rfl,_,rfl,?_⟩
  refine jgn (fun h3=>?_) (fun h3=>fin _ ?_)
  ·have z3 : ¬ o.p = o.g:=by simpa using h3
   refine ⟨_,rfl,_,_,_,rfl,_,rfl,?_⟩
   refine jgn (fun h4=>?_) (fun h4=>fin _ ?_)
   ·have z4:=of_decide_eq_true h4
    refine ⟨_,rfl,_,_,_,rfl,fin _ ?_⟩
    unfold xk
    rw [Bool.eq_iff_iff,decide_eq_true_iff,decide_eq_true_iff]
    exact ⟨fun h=>⟨z1.1,z1.2,z2.1,z2.2,z3,z4.1,z4.2,h.1,h.2⟩,fun h=>h.2.2.2.2.2.2.2⟩
   ·have z4 : ¬ (0 ≤ o.n ∧ o.n ≤ 99):=fun h=>h4 (decide_eq_true h)
    unfold xk
    exact (decide_eq_false (fun h=>z4 ⟨h.2.2.2.2.2.1,h.2.2.2.2.2.2.1⟩)).symm
  ·have z3:o.p = o.g:=by simpa using h3
   unfold xk
   exact (decide_eq_false (fun h=>h.2.2.2.2.1 z3)).symm
theorem jjf (T:Txt K mg t) : yf P w K mg base CX0 4 t.jl2 t.jmn ["order"] jt4:=by
 refine T.je4.ok juk (fun vs H Q E h=>?_) (fun cdv A outer s H vs Q E hr h=>?_)
 ·obtain ⟨a,o,rfl,_⟩:=h
  rfl
 ·obtain ⟨a,o,rfl,ha,ho,k⟩:=h
  refine ⟨_,(@jb _ _ _ _ _ (zo (yi (xb (jq (jkc T) hr.dn rfl T.jh7 T.jez.kp T.jnd.choose_spec (show Vals [.int 8] _ from .cons ⟨_,rfl⟩ .nil) jr (jc (pv 0) jf)))) (@jd _ _ _ (jzs)) qc)
   (@jd _ _ _ (j4 (@jm0 _ _ _ _ _ (@v8 _ _ _ _ _ (jai ji2 (pv 0) jn (fun _ _=>rfl)) (jai ji2 (pv 0) jn (fun _ _=>rfl)) rfl rfl))))),?_⟩
  refine ⟨_,rfl,a,o,8,rfl,ha,_,rfl,j5a ho ?_⟩
  exact ⟨_,rfl,a,jn9 o,0,.int o.p,rfl,rfl,SqT.of ha,rfl,_,rfl,a,jn9 o,1,.int o.n,rfl,rfl,SqT.of ha,rfl,zs2,fun p hp=>k p hp⟩
theorem jlc {H:Hp} {a b:Addr} {o:HO} (h:upd H a o b = none) : b ≠ a ∧ H b = none:=by
 have hb:b ≠ a:=fun z=>by
  rw [z,ja] at h
  cases h
 rw [je hb] at h
 exact ⟨hb,h⟩
def brd (S:Addr) (en:Int) : List (Str × V):=pf "signers" (.ref S) (pf "enough" (.int en) [])
theorem jkf (S:Addr) (en:Int) : (brd S en).lookup ("signers" : Str) = some (.ref S):=by
 unfold brd
 rw [jl,if_pos rfl]
theorem jh1 (S:Addr) (en:Int) : (brd S en).lookup ("enough" : Str) = some (.int en):=by
 unfold brd
 rw [jl,if_neg (by decide +kernel),jl,if_pos rfl]
theorem jsx (S:Addr) (en:Int) {m:Str} (h1 : ¬ m = "signers") (h2 : ¬ m = "enough") : (brd S en).lookup m = none:=by
 unfold brd
 rw [jl,if_neg h1,jl,if_neg h2]
 rfl
abbrev jde:=List (List Key × List Int)
def jwu (H:Hp) (kv:List Key × V) (p:List Key × List Int) : Prop:=kv.1 = p.1 ∧ ∃ b,kv.2 = .ref b ∧ H b = some (.lst (p.2.map V.int))
structure yz (t:Ad) (H:Hp) (p dx S:Addr) (en:Int) (kvs:List (List Key × V)) (ps:jde) : Prop where
 ob:H p = some (.ins t.jam dx (brd S en))
 sg:H S = some (.dT kvs)
 hs:Paired (jwu H) kvs ps
 un:(kvs.map (·.2)).Nodup
theorem yz.same {t:Ad} {H H':Hp} {p dx S:Addr} {en:Int} {kvs:List (List Key × V)} {ps:jde} (s:wz H H') (b:yz t H p dx S en kvs ps) : yz t H' p dx S en kvs ps:=
 ⟨s _ _ b.ob,s _ _ b.sg,Paired.pz b.hs fun _ _ ⟨e,c,ec,h⟩=>⟨e,c,ec,s _ _ h⟩,b.un⟩
structure jut (t:Ad) (H:Hp) (p dx S:Addr) (en:Int) (kvs:List (List Key × V)) (ps:jde) : Prop where
 ob:H p = some (.ins t.jam dx (brd S en))
 sg:Rd H S (.dT kvs)
 hs:Paired (jwu H) kvs ps
theorem yz.rd {t:Ad} {H:Hp} {p dx S:Addr} {en:Int} {kvs:List (List Key × V)} {ps:jde} (b:yz t H p dx S en kvs ps) : jut t H p dx S en kvs ps:=⟨b.ob,.inl b.sg,b.hs⟩
theorem jrr {H H':Hp} {a:Addr} {u:HO} (s:wz H H') (h:Rd H a u) : Rd H' a u:=by
 rcases h with h | ⟨o,h⟩
 ·exact .inl (s _ _ h)
 ·exact .inr ⟨o,s _ _ h⟩
def qj:jde → List Key → List Int
 | [],_=>[]
 | p :: ps,k=>if p.1 = k then p.2 else qj ps k
theorem jh5 {H:Hp} {k:List Key} : ∀ {kvs:List (List Key × V)} {ps:jde},Paired (jwu H) kvs ps → (jgm kvs k = none ∧ qj ps k = [] ∧ k ∉ ps.map (·.1)) ∨ ∃ b,jgm kvs k = some (.ref b) ∧ H b = some (.lst ((qj ps k).map V.int))
 | _,_,.nil=>.inl ⟨rfl,rfl,by simp⟩
 | kv :: kvs,p :: ps,.cons ⟨e,b,eb,h⟩ r=>by
  by_cases z:p.1 = k
  ·refine .inr ⟨b,?_,?_⟩
   ·rw [jb6 (e.trans z),eb]
   ·rw [qj,if_pos z]
    exact h
  ·have z' : ¬ kv.1 = k:=fun q=>z (e.symm.trans q)
   rw [qj,if_neg z,jb4 z']
   rcases jh5 r with ⟨h1,h2,h3⟩ | h
   ·exact .inl ⟨h1,h2,by rw [List.map_cons,List.mem_cons]; exact fun q=>q.elim (fun q=>z q.symm) h3⟩
   ·exact .inr h
def jxg (t:Ad) : Sp:=fun vs H Q _=>∃ x dx en,vs = [.ref x,.int en] ∧ H x = some (.ins t.jam dx []) ∧ ∀ S H',H S = none → yz t H' x dx S en [] [] → (∀ b o,H b = some o → b ≠ x → H' b = some o) → Q .non H'
def jtl (t:Ad) : Sp:=fun vs H Q _=>∃ p dx S en kvs ps b k,vs = [.ref p,.ref b] ∧ jut t H p dx S en kvs ps ∧ H b = some (.tup (k.map kV)) ∧ ∀ H',wz H H' → Q (.bl (decide (en ≤ ((qj ps k).length:Int)))) H'
def jre:jde → List Key → Int → jde
 | [],k,h=>[(k,[h])]
 | p :: ps,k,h=>if p.1 = k then (p.1,p.2 ++ [h]) :: ps else p :: jre ps k h
def NotIn (kvs:List (List Key × V)) (c:Addr) : Prop:=∀ kv ∈ kvs,kv.2 ≠ .ref c
def j4k (t:Ad) : Sp:=fun vs H Q _=>∃ p dx S en kvs ps b k h,vs = [.ref p,.int h,.ref b] ∧ yz t H p dx S en kvs ps ∧ H b = some (.tup (k.map kV)) ∧ kvs.length ≤ 1000 ∧ (qj ps k).length ≤ 1000 ∧
 (h ∈ qj ps k → ∀ H',wz H H' → Q (.bl false) H') ∧
 (h ∉ qj ps k → ∀ kvs' H',yz t H' p dx S en kvs' (jre ps k h) → (∀ c u,H c = some u → c ≠ S → NotIn kvs c → H' c = some u) → (∀ c u,H c = some u → NotIn kvs c → NotIn kvs' c) → Q (.bl (decide (((qj ps k).length:Int) + 1 = en))) H')
theorem jtk : ∀ {ps:jde} {k:List Key} {h:Int},k ∉ ps.map (·.1) → jre ps k h = ps ++ [(k,[h])]
 | [],_,_,_=>rfl
 | p :: ps,k,h,z=>by
  rw [List.map_cons,List.mem_cons] at z
  rw [jre,if_neg (fun e=>z (.inl e.symm)),jtk fun e=>z (.inr e)]
  rfl
theorem qy {α β : Type} {F : α → β → Prop} : ∀ {xs:List α} {ys:List β} {x : α} {y : β},Paired F xs ys → F x y → Paired F (xs ++ [x]) (ys ++ [y])
 | _,_,_,_,.nil,h=>.cons h .nil
 | _,_,_,_,.cons a r,h=>.cons a (qy r h)
theorem jxa {k:List Key} {v:V} {kvs:List (List Key × V)} (ev:jgm kvs k = some v) : v ∈ kvs.map (·.2):=by
 unfold jgm at ev
 cases hf:kvs.find? (fun kv=>decide (kv.1 = k)) with
 | none=>
  rw [hf] at ev
  cases ev
 | some q=>
  rw [hf] at ev
  have e3:q.2 = v:=Option.some.inj ev
  rw [← e3]
  exact List.mem_map_of_mem (List.mem_of_find?_eq_some hf)
theorem ur {h:Int} : ∀ {hs:List Int},inV (.int h) (hs.map V.int) = decide (h ∈ hs)
 | []=>rfl
 | x :: hs=>by
  have ih:=ur (h:=h) (hs:=hs)
  simp only [List.map_cons,inV,List.any_cons] at ih ⊢
  rw [ih]
  by_cases e:h = x
  ·subst e
   simp [eqV]
  ·have e' : ¬ x = h:=fun z=>e z.symm
   simp [eqV,e,e']
theorem jda (hs:List Int) : (hs.map V.int).all jq1 = true:=by
 rw [List.all_eq_true]
 intro y hy
 obtain ⟨i,_,rfl⟩:=List.mem_map.mp hy
 rfl
theorem ju5 {H:Hp} {r:Addr} (hr:H r = none) : ∀ {kvs:List (List Key × V)} {ps:jde},Paired (jwu H) kvs ps → V.ref r ∉ kvs.map (·.2)
 | _,_,.nil=>by simp
 | _,_,.cons ⟨_,b,eb,hb⟩ q=>by
  rw [List.map_cons,List.mem_cons]
  rintro (z | z)
  ·rw [eb] at z
   cases z
   rw [hr] at hb
   cases hb
  ·exact ju5 hr q z
theorem grown {H:Hp} {k:List Key} {h:Int} {c:Addr} : ∀ {kvs:List (List Key × V)} {ps:jde},Paired (jwu H) kvs ps → (kvs.map (·.2)).Nodup → jgm kvs k = some (.ref c) → Paired (jwu (upd H c (.lst ((qj ps k ++ [h]).map V.int)))) kvs (jre ps k h)
 | _,_,.nil,_,e=>by cases e
 | kv :: kvs,p :: ps,.cons ⟨e,b,eb,hb⟩ r,nd,ev=>by
  rw [List.map_cons,List.nodup_cons] at nd
  have keep : ∀ {kvs:List (List Key × V)} {ps:jde} {o:HO} {a:Addr},V.ref a ∉ kvs.map (·.2) → Paired (jwu H) kvs ps → Paired (jwu (upd H a o)) kvs ps:=fun {kvs ps o a} ha r=>by
   induction r with
   | nil=>exact .nil
   | cons q _ ih=>
    rw [List.map_cons,List.mem_cons] at ha
    obtain ⟨q1,b,q2,q3⟩:=q
    refine .cons ⟨q1,b,q2,?_⟩ (ih fun z=>ha (.inr z))
    rw [je (fun z=>ha (.inl (by rw [q2,z])))]
    exact q3
  by_cases z:p.1 = k
  ·rw [jb6 (e.trans z),eb] at ev
   cases ev
   rw [jre,if_pos z,qj,if_pos z]
   rw [eb] at nd
   exact .cons ⟨e,c,eb,ja⟩ (keep nd.1 r)
  ·have z' : ¬ kv.1 = k:=fun q=>z (e.symm.trans q)
   rw [jb4 z'] at ev
   rw [jre,if_neg z,qj,if_neg z]
   have hm:V.ref c ∈ kvs.map (·.2):=jxa ev
   have hbc:b ≠ c:=fun q=>nd.1 (by rw [eb,q]; exact hm)
   exact .cons ⟨e,b,eb,by rw [je hbc]; exact hb⟩ (grown r nd.2 ev)
theorem j6q {a:Addr} {o:Obj} {kvs:List (List Key × V)} {g:TG} {ti:TT} {te:TE} {σ0:St} {H0:Hp} {Q:VK} (Pv:Nat → List V → St → Hp → Prop) (h0:Pv 0 [] σ0 H0)
    (hl : ∀ i ys σ H,i ≤ kvs.length → Pv i ys σ H → H a = some (.frz o (.dT kvs)) ∧ ys.length ≤ sizeLine)
    (hs : ∀ i kv b ys σ H,kvs[i]? = some kv → H b = some (.tup (kv.1.map kV)) → Pv i ys σ H → g (.ref b) σ H fun σ2 H2=>ti σ2 H2 fun c H3=>if c = true then te σ2 H3 fun y H4=>Pv (i + 1) (ys ++ [y]) σ2 H4 else Pv (i + 1) ys σ2 H3)
    (hd : ∀ ys σ H,Pv kvs.length ys σ H → ∀ p,H p = none → Q (.ref p) (upd H p (.lst ys))) :
    ∃ W : Nat → Nat → List V → St → Hp → Prop,(∃ m,W 0 m [] σ0 H0) ∧ ∀ i m ys σ H,W i m ys σ H →
      ys.length ≤ sizeLine ∧ (((j4a a o kvs).stop i H ∧ jx2 Q ys H) ∨
        ((j4a a o kvs).go i H ∧ ∃ N:List V → St → Hp → Prop,(∀ ys' σ' H',N ys' σ' H' → ∃ m',m' < m ∧ W (i + 1) m' ys' σ' H') ∧
          ∀ x H',(j4a a o kvs).yld i H x H' → g x σ H' fun σ2 H2=>ti σ2 H2 fun b H3=>if b = true then te σ2 H3 fun y H4=>N (ys ++ [y]) σ2 H4 else N ys σ2 H3)):=by
  refine ⟨fun i m ys σ H=>m = kvs.length - i ∧ i ≤ kvs.length ∧ Pv i ys σ H,⟨kvs.length,by simp,Nat.zero_le _,h0⟩,?_⟩
  rintro i m ys σ H ⟨rfl,hi,p⟩
  obtain ⟨q,hz⟩:=hl i ys σ H hi p
  refine ⟨hz,?_⟩
  by_cases hlt:i < kvs.length
  · refine .inr ⟨⟨hlt,q⟩,Pv (i + 1),fun ys' σ' H' p'=>⟨kvs.length - (i + 1),by omega,rfl,hlt,p'⟩,fun x H' y=>?_⟩
    obtain ⟨e,kv,b,ek,ex,eb⟩:=y
    subst e ex
    exact hs i kv b ys σ _ ek eb p
  · have e:i = kvs.length:=by omega
    subst e
    exact .inl ⟨⟨Nat.le_refl _,q⟩,hd ys σ H p⟩
abbrev ym:=List (List Int × List Int)
def jnw (t:List Int) : List Key:=t.map Sum.inl
def thP (is:ym) : jde:=is.map fun p=>(jnw p.1,p.2)
theorem jzt (t:List Int) : (jnw t).map kV = t.map V.int:=by
 unfold jnw
 rw [List.map_map]
 rfl
theorem jrx {t u:List Int} (h:jnw t = jnw u) : t = u:=(List.map_inj_right (fun _ _ z=>Sum.inl.inj z)).mp h
def yn (is:ym) (en:Int) : List (List Int):=(is.filter fun p=>decide (en ≤ (p.2.length:Int))).map (·.1)
theorem jpd : ∀ {is:ym} {i:Nat} {p:List Int × List Int},(is.map (·.1)).Nodup → is[i]? = some p → qj (thP is) (jnw p.1) = p.2
 | [],_,_,_,e=>by simp at e
 | x :: is,0,p,_,e=>by
  cases Option.some.inj e
  show (if jnw x.1 = jnw x.1 then x.2 else _) = _
  rw [if_pos rfl]
 | x :: is,i + 1,p,nd,e=>by
  rw [List.map_cons,List.nodup_cons] at nd
  have hm:p ∈ is:=List.mem_of_getElem? (by simpa using e)
  show (if jnw x.1 = jnw p.1 then x.2 else qj (thP is) (jnw p.1)) = _
  rw [if_neg fun z=>nd.1 (by rw [jrx z]; exact List.mem_map_of_mem hm)]
  exact jpd nd.2 (by simpa using e)
theorem va {K:W.Frag} {H H':Hp} {vs:List V} {ts:List (List Int)} (s:wz H H') (h:jhh K H vs ts) : jhh K H' vs ts:=Paired.pz h fun _ _ ⟨a,e,q⟩=>⟨a,e,by
 rcases q with q | q
 ·exact .inl (jrr s q)
 ·exact .inr q⟩
section
variable {P:Program} {w:World} {K:W.Frag} {mg:Str → Option Value} {base:Heap} {t:Ad}
theorem ko (T:Txt K mg t) : yf P w K mg base CX0 1 t.ug t.uu ["self","thing"] (jtl t):=by
 refine T.jdu.ok jkh (fun vs H Q E h=>?_) (fun cdv A outer s H vs Q E hr h=>?_)
 ·obtain ⟨p,dx,S,en,kvs,ps,b,k,rfl,_⟩:=h
  rfl
 ·obtain ⟨p,dx,S,en,kvs,ps,b,k,rfl,B,hb,q⟩:=h
  refine ⟨_,(@jd _ _ _ (j4 (jeh j46 (jt jz rfl T.jeo boot_len (jc (j0v (jol hr) (j9 (pv 0) rfl) (pv 1) (@zk _ _ _ _ jf) ⟨rfl,rfl,rfl,rfl⟩) jf)) (j9 (pv 0) rfl) (qf _)))),?_⟩
  refine ⟨_,rfl,p,_,dx,_,_,rfl,B.ob,T.yj,T.yo,jkf _ _,S,rfl,.inr ⟨kvs,B.sg⟩,_,rfl,zs0,fun r hr=>?_⟩
  have s1:=jg (o:=.lst []) hr
  refine ⟨_,.inr ⟨kvs,k,b,jrr s1 B.sg,rfl,s1 _ _ hb,rfl⟩,?_⟩
  rcases jh5 (k:=k) B.hs with ⟨h1,h2,h3⟩ | ⟨c,h1,h2⟩
  ·rw [h1]
   refine ⟨r,[],rfl,.inl (SqL.of ja),_,rfl,p,_,dx,_,_,rfl,s1 _ _ B.ob,T.yj,T.x8,jh1 _ _,_,_,rfl,rfl,?_⟩
   have:=q _ s1
   rw [h2] at this
   exact this
  ·rw [h1]
   refine ⟨c,_,rfl,.inl (SqL.of (s1 _ _ h2)),_,rfl,p,_,dx,_,_,rfl,s1 _ _ B.ob,T.yj,T.x8,jh1 _ _,_,_,rfl,rfl,?_⟩
   rw [List.length_map]
   exact q _ s1
theorem jts (T:Txt K mg t) : yf P w K mg base CX0 1 t.jki t.jj2 ["self","house","thing"] (j4k t):=by
 refine T.jou.ok jng (fun vs H Q E h=>?_) (fun cdv A outer s H vs Q E hr h=>?_)
 ·obtain ⟨p,dx,S,en,kvs,ps,b,k,h,rfl,_⟩:=h
  rfl
 ·obtain ⟨p,dx,S,en,kvs,ps,b,k,h,rfl,B,hb,l1,l2,q1,q2⟩:=h
  refine ⟨_,(@jb _ _ _ _ _ (j8 (i:=3) jng.nd rfl (Or.inl rfl) (jvz (jol hr) (j9 (pv 0) rfl) (pv 2) (@zk _ _ _ _ jf) ⟨rfl,rfl,rfl,rfl⟩))
   (@jb _ _ _ _ _ (zo (jw js0 (pv 1) (pv 3) (by with_unfolding_all rfl)) (@jd _ _ _ (j4 jkd)) qc)
   (@jb _ _ _ _ _ (qe (jj0 PySem.F.plainAttrs_list PySem.F.slot_list_append PySem.F.type_list_append vq (pv 3) (jc (pv 1) jf)))
   (@jd _ _ _ (j4 (jeh jin (jt jz rfl T.jeo boot_len (jc (pv 3) jf)) (j9 (pv 0) rfl) (qf _))))))),?_⟩
  refine ⟨_,rfl,p,_,dx,_,_,rfl,B.ob,T.yj,T.yo,jkf _ _,S,rfl,.inr ⟨kvs,.inl B.sg⟩,_,rfl,zs0,fun r hr=>?_⟩
  have s1:=jg (o:=.lst []) hr
  have B1:=B.same s1
  refine ⟨kvs,k,b,B1.sg,rfl,s1 _ _ hb,xt l1,fun v hv=>?_,fun hv=>?_⟩
  ·rcases jh5 (k:=k) B1.hs with ⟨z,_⟩ | ⟨c,h1,h2⟩
   ·rw [hv] at z
    cases z
   cases Option.some.inj (hv.symm.trans h1)
   refine ⟨_,rfl,_,rfl,c,_,rfl,.inl (SqL.of h2),rfl,jda _,_,rfl,jgn (fun z=>?_) (fun z=>?_)⟩
   ·rw [if_neg (by decide),ur] at z
    exact q1 (of_decide_eq_true z) _ s1
   rw [if_neg (by decide),ur] at z
   have nh:h ∉ qj ps k:=fun y=>z (decide_eq_true y)
   have pc:p ≠ c:=jlw B1.ob h2 (by intro z; cases z)
   have Sc:S ≠ c:=jlw B1.sg h2 (by intro z; cases z)
   refine ⟨_,rfl,.inl ⟨rfl,_,SqL.of h2⟩,_,rfl,c,_,_,rfl,rfl,h2,xt (by rw [List.length_map]; exact l2),?_⟩
   refine ⟨_,rfl,c,_,rfl,.inl (SqL.of ja),_,rfl,p,_,dx,_,_,rfl,(by rw [je pc]; exact B1.ob),T.yj,T.x8,jh1 _ _,rfl,?_⟩
   have G:=grown (h:=h) B1.hs B1.un h1
   rw [List.map_append] at G
   have e:decide (V.int (((qj ps k).map V.int ++ [V.int h]).length:Nat) = V.int en) = decide (((qj ps k).length:Int) + 1 = en):=by
    rw [List.length_append,List.length_map]
    simp
   have goal:=q2 nh kvs _ ⟨by rw [je pc]; exact B1.ob,by rw [je Sc]; exact B1.sg,G,B1.un⟩ fun c' u hc cS cN=>by
    have ne:c' ≠ c:=fun y=>by
     obtain ⟨kv,hm,ek⟩:=List.mem_map.mp (jxa h1)
     exact cN kv hm (by rw [ek,y])
    rw [je ne]
    exact s1 _ _ hc
   have goal:=goal fun _ _ _ z=>z
   rw [← e] at goal
   exact goal
  ·rcases jh5 (k:=k) B1.hs with ⟨_,h2,h3⟩ | ⟨c,z,_⟩
   case inr=>rw [hv] at z; cases z
   have rS:r ≠ S:=(jk B.sg hr).symm
   have rp:r ≠ p:=(jk B.ob hr).symm
   have Sp:S ≠ p:=jlw B.sg B.ob (by intro z; cases z)
   rw [jn3 _ hv]
   have hr1:upd (upd H r (.lst [])) S (.dT (kvs ++ [(k,.ref r)])) r = some (.lst []):=by rw [je rS]; exact ja
   refine ⟨_,rfl,_,rfl,r,[],rfl,.inl (SqL.of hr1),rfl,rfl,_,rfl,pq ?_⟩
   refine ⟨_,rfl,.inl ⟨rfl,_,SqL.of hr1⟩,_,rfl,r,[],_,rfl,rfl,hr1,(by show 0 < sizeLine; decide),?_⟩
   have ob2:upd (upd (upd H r (.lst [])) S (.dT (kvs ++ [(k,.ref r)]))) r (.lst ([] ++ [.int h])) p = some (.ins t.jam dx (brd S en)):=by rw [je rp.symm,je Sp.symm]; exact B1.ob
   refine ⟨_,rfl,r,_,rfl,.inl (SqL.of ja),_,rfl,p,_,dx,_,_,rfl,ob2,T.yj,T.x8,jh1 _ _,rfl,?_⟩
   have goal:=q2 (by rw [h2]; simp) (kvs ++ [(k,.ref r)]) (upd (upd (upd H r (.lst [])) S (.dT (kvs ++ [(k,.ref r)]))) r (.lst ([] ++ [.int h]))) ⟨ob2,by rw [je rS.symm]; exact ja,by
    rw [jtk h3]
    refine qy (Paired.pz B.hs fun kv pp ⟨e1,c,e2,e3⟩=>⟨e1,c,e2,?_⟩) ⟨rfl,r,rfl,ja⟩
    rw [je (jk e3 hr),je (jlw e3 B.sg (by intro z; cases z)),je (jk e3 hr)]
    exact e3,by
    rw [List.map_append,List.nodup_append]
    refine ⟨B.un,by simp,fun x hx y hy e=>?_⟩
    rw [List.map_cons,List.map_nil,List.mem_singleton] at hy
    rw [e,hy] at hx
    exact ju5 hr B.hs hx⟩ fun c' u hc cS _=>by
     rw [je (jk hc hr),je cS,je (jk hc hr)]
     exact hc
   have goal:=goal fun c u hc z kv hm=>by
    rcases List.mem_append.mp hm with y | y
    ·exact z kv y
    ·have y':kv = (k,.ref r):=by simpa using y
     rw [y']
     intro w
     have w':r = c:=by simpa using w
     rw [← w',hr] at hc
     cases hc
   rw [h2] at goal
   have e:decide (V.int ((([] : List V) ++ [V.int h]).length:Nat) = V.int en) = decide ((([] : List Int).length:Int) + 1 = en):=by simp
   rw [← e] at goal
   exact goal
def jxr (H:Hp) (v:V) (t:List Int) : Prop:=∃ a,v = .ref a ∧ H a = some (.tup (t.map V.int))
theorem jxr.same {H H':Hp} (s:wz H H') {v:V} {t:List Int} (h:jxr H v t) : jxr H' v t:=let ⟨a,e,q⟩:=h; ⟨a,e,s _ _ q⟩
theorem jxr.at_ {K:W.Frag} {H:Hp} {vs:List V} {ts:List (List Int)} (h:Paired (jxr H) vs ts) : jhh K H vs ts:=Paired.pz h fun _ _ ⟨a,e,q⟩=>⟨a,e,SqT.of q⟩
theorem jto {F:V → List Int → Prop} {vs:List V} {ts:List (List Int)} (p:Paired F vs ts) : ∀ {ix:List Nat},(∀ i ∈ ix,i < vs.length) → Paired F (ix.map fun i=>vs.getD i .non) (ix.map fun i=>ts.getD i [])
 | [],_=>.nil
 | i :: ix,h=>by
  obtain ⟨t,e,q⟩:=qi p (List.getElem?_eq_getElem (h i List.mem_cons_self))
  rw [List.map_cons,List.map_cons]
  refine .cons ?_ (jto p fun j hj=>h j (List.mem_cons_of_mem _ hj))
  rw [List.getD_eq_getElem?_getD,List.getD_eq_getElem?_getD,e,List.getElem?_eq_getElem (h i List.mem_cons_self)]
  exact q
def juy (t:Ad) : Sp:=fun vs H Q _=>∃ p dx S en kvs is,vs = [.ref p] ∧ yz t H p dx S en kvs (thP is) ∧ kvs.length < 64 ∧ (is.map (·.1)).Nodup ∧ (∀ x ∈ is,x.1 ≠ []) ∧
 ∀ (r:Addr) (vs':List V) (ts':List (List Int)) (H':Hp),H r = none → wz H H' → ts'.Perm (yn is en) → ts'.Pairwise (fun a b=>HT.lexLt a b = true) → Paired (jxr H') vs' ts' → H' r = some (.lst vs') → Q (.ref r) H'
theorem jny (T:Txt K mg t) : yf P w K mg base CX0 2 t.jc5 t.jdm ["self"] (juy t):=by
 refine T.jhv.ok jnp (fun vs H Q E h=>?_) (fun cdv A outer s H vs Q E hr h=>?_)
 ·obtain ⟨p,dx,S,en,kvs,is,rfl,_⟩:=h
  rfl
 ·obtain ⟨p,dx,S,en,kvs,is,rfl,B,l64,nd,ne,q⟩:=h
  refine ⟨_,(@jd _ _ _ (j4 (jt jb8 rfl T.jk8 boot_sorted (jc (jw2 (jd0 (N':=["thing","self"]) (ix:=[none,some 0]) (gh (by kernel_rfl)) rfl (j6j (j9 (pv 0) rfl)) (fun _ _ _ _=>(ju (i:=0) j77 rfl (Or.inl rfl) (.inr rfl))) (fun _ _ _ _=>(jl4 (xb (j6 (pv 1) T.yj T.yl (ko T) hr.dn T.y3 .nil jr (jc (pv 0) jf))))) (fun _ _ _ _=>(pv 0)))) jf)))),?_⟩
  have len:kvs.length = is.length:=by
   have:=Paired.length B.hs
   rwa [thP,List.length_map] at this
  refine ⟨_,rfl,p,_,dx,_,_,rfl,B.ob,T.yj,T.yo,jkf _ _,S,kvs,rfl,B.sg,fun o=>j6q (fun i ys σ H'=>∃ v,σ = [v,some (.ref p)] ∧ wz (upd H S (.frz o (.dT kvs))) H' ∧ Paired (jxr H') ys (yn (is.take i) en)) ⟨none,rfl,wz.refl _,.nil⟩ ?_ ?_ ?_⟩
  ·rintro i ys σ H' hi ⟨v,rfl,sm,tu⟩
   refine ⟨sm _ _ ja,?_⟩
   rw [Paired.length tu,yn,List.length_map]
   exact jmm (Nat.le_trans (List.length_filter_le _ _) (by rw [List.length_take]; omega))
  ·rintro i kv b ys σ H' ek eb ⟨v,rfl,sm,tu⟩
   obtain ⟨pp,ep,e1,c,e2,e3⟩:=qi B.hs ek
   obtain ⟨x,ex,rfl⟩ : ∃ x,is[i]? = some x ∧ (jnw x.1,x.2) = pp:=by
    rw [thP,List.getElem?_map] at ep
    cases hx:is[i]? with
    | none=>
     rw [hx] at ep
     cases ep
    | some x=>
     rw [hx] at ep
     exact ⟨x,rfl,Option.some.inj ep⟩
   have hfr : ∀ c u,H c = some u → c ≠ S → H' c = some u:=fun c u hc cS=>sm _ _ (by rw [je cS]; exact hc)
   have hS':H' S = some (.frz o (.dT kvs)):=sm _ _ ja
   have R:jut t H' p dx S en kvs (thP is):=⟨hfr _ _ B.ob (jlw B.ob B.sg (by intro z; cases z)),.inr ⟨o,hS'⟩,Paired.pz B.hs fun _ _ ⟨a1,c,a2,a3⟩=>⟨a1,c,a2,hfr _ _ a3 (jlw a3 B.sg (by intro z; cases z))⟩⟩
   have hk:kv.1 = jnw x.1:=e1
   rw [hk] at eb
   have hh:=jpd nd ex
   have tk:yn (is.take (i + 1)) en = yn (is.take i) en ++ (if en ≤ (x.2.length:Int) then [x.1] else []):=by
    unfold yn
    rw [take_snoc ex,List.filter_append,List.map_append]
    by_cases z:en ≤ (x.2.length:Int) <;> simp [z]
   refine ⟨_,rfl,p,dx,_,rfl,R.ob,jsx _ _ (by decide +kernel) (by decide +kernel),_,rfl,p,dx,S,en,kvs,thP is,b,jnw x.1,rfl,R,eb,fun H3 s3=>⟨_,rfl,?_⟩⟩
   rw [hh]
   have eb3:H3 b = some (.tup (x.1.map V.int)):=by
    have:=s3 _ _ eb
    rwa [jzt] at this
   refine jgn (fun z=>?_) (fun z=>?_)
   ·refine ⟨_,rfl,_,rfl,sm.trans s3,?_⟩
    rw [tk,if_pos (of_decide_eq_true z)]
    exact qy (Paired.pz tu fun _ _ h=>h.same s3) ⟨b,rfl,eb3⟩
   ·refine ⟨_,rfl,sm.trans s3,?_⟩
    rw [tk,if_neg (fun y=>z (decide_eq_true y)),List.append_nil]
    exact Paired.pz tu fun _ _ h=>h.same s3
  ·rintro ys σ H' ⟨v,rfl,sm,tu⟩ r hr
   rw [len,List.take_length] at tu
   have hS':H' S = some (.frz o (.dT kvs)):=sm _ _ ja
   have rS:r ≠ S:=(jk hS' hr).symm
   have keepE : ∀ c u,H' c = some u → c ≠ S → upd (upd H' r (.lst ys)) S (.dT kvs) c = some u:=fun c u hc cS=>by
    rw [je cS,je (jk hc hr)]
    exact hc
   have tu2:Paired (jxr (upd (upd H' r (.lst ys)) S (.dT kvs))) ys (yn is en):=Paired.pz tu fun _ _ ⟨a,e,h⟩=>⟨a,e,keepE _ _ h (jlw h hS' (by intro z; cases z))⟩
   refine ⟨S,o,.dT kvs,(by rw [je rS.symm]; exact hS'),(fun o' u' z=>?_),True.intro,r,ys,yn is en,rfl,SqL.of (by rw [je rS]; exact ja),jxr.at_ tu2,?_,?_,?_,fun q' vs' ts' ix hq pix ev et _ pt _ pw=>?_⟩
   ·have z':H S = some (.frz o' u'):=z
    rw [B.sg] at z'
    cases z'
   ·rw [Paired.length tu,yn,List.length_map]
    exact Nat.lt_of_le_of_lt (List.length_filter_le _ _) (by omega)
   ·exact nd.sublist (List.filter_sublist.map _)
   ·intro u hu
    obtain ⟨x,hx,rfl⟩:=List.mem_map.mp hu
    exact ne x (List.mem_filter.mp hx).1
   ·obtain ⟨n1,n2⟩:=jlc hq
    obtain ⟨n3,n4⟩:=jlc n2
    have h0:=(jlc (sm.free n4)).2
    have tu3:Paired (jxr (upd (upd (upd H' r (.lst ys)) S (.dT kvs)) q' (.lst vs'))) vs' ts':=by
     have:=jto (Paired.pz tu2 fun _ _ h=>h.same (jg (o:=.lst vs') hq)) (ix:=ix) (fun i hi=>List.mem_range.mp (pix.mem_iff.mp hi))
     rw [ev,et]
     rw [ev] at this
     exact this
    refine q q' vs' ts' _ h0 (fun c u hc=>?_) pt pw tu3 ja
    rw [je (jk hc h0)]
    by_cases cS:c = S
    ·subst cS
     rw [ja,← hc,B.sg]
    ·exact keepE c u (sm _ _ (by rw [je cS]; exact hc)) cS
theorem jly (T:Txt K mg t) : yf P w K mg base CX0 1 t.gs t.jbk ["self","enough"] (jxg t):=by
 refine T.jgl.ok jmo (fun vs H Q E h=>?_) (fun cdv A outer s H vs Q E hr h=>?_)
 ·obtain ⟨x,dx,en,rfl,_⟩:=h
  rfl
 ·obtain ⟨x,dx,en,rfl,hx,k⟩:=h
  refine ⟨_,(@jb _ _ _ _ _ (jag (pv 0) (pv 1) rfl)
   (@jd _ _ _ (jag (pv 0) jrm rfl))),?_⟩
  refine ⟨_,rfl,_,rfl,x,_,dx,_,rfl,hx,T.yj,T.x8,(by show 0 < 1000; decide),fun S hS=>?_⟩
  obtain ⟨Sx,hS0⟩:=jlc hS
  refine ⟨_,rfl,x,_,dx,_,rfl,(by rw [je (Ne.symm Sx),ja]),T.yj,T.yo,(by show 1 < 1000; decide),?_⟩
  refine k S _ hS0 ⟨ja,by rw [je Sx]; exact ja,.nil,.nil⟩ fun b o e bx=>?_
  rw [je bx,je (jk e hS0),je bx]
  exact e
theorem jj9 (T:Txt K mg t) : yf P w K mg base CX0 1 t.ud t.uf ["self","purse"] (fun vs H Q _=>∃ x v,vs = [.ref x,v] ∧ H x = some (jso x t.xc) ∧ ∀ d,H d = none → Q .non (upd (upd H x (jpn x t.xc d)) d (.xd [("purse",v)]))):=by
 refine T.jdz.ok jkb (fun vs H Q E h=>?_) (fun cdv A outer s H vs Q E hr h=>?_)
 ·obtain ⟨x,v,rfl,_⟩:=h
  rfl
 ·obtain ⟨x,v,rfl,hx,k⟩:=h
  refine ⟨_,(@jd _ _ _ (j2t T.jkn rfl (pv 0) (pv 1) rfl)),?_⟩
  exact ⟨_,rfl,_,rfl,x,rfl,hx,k⟩
theorem j57 {H:Hp} {ea d:Addr} {X Y Z:HO} (h:H ea = none) (hd:upd H ea X d = none) : H d = none ∧ upd (upd (upd H ea X) ea Y) d Z ea = some Y ∧ wz H (fun b=>if b = ea then none else upd (upd (upd H ea X) ea Y) d Z b) ∧ (fun b=>if b = ea then none else upd (upd (upd H ea X) ea Y) d Z b) d = some Z:=by
 have n1:d ≠ ea:=fun z=>by
  rw [z,ja] at hd
  cases hd
 have n2:H d = none:=by rw [je n1] at hd; exact hd
 refine ⟨n2,by rw [je (Ne.symm n1),ja],fun b u e=>?_,?_⟩
 ·have be:=jk e h
  show (if b = ea then none else upd (upd (upd H ea X) ea Y) d Z b) = some u
  rw [if_neg be,je (jk e n2),je be,je be]
  exact e
 ·show (if d = ea then none else upd (upd (upd H ea X) ea Y) d Z d) = some Z
  rw [if_neg n1,ja]
theorem jkx {a b:TS} {D:Ends} {σ : St} {H:Hp} (h : ∀ N:St → Hp → Prop,(∀ σ' H',b D σ' H' → N σ' H') → a { D with nx:=N } σ H) : j7k a b D σ H:=h _ fun _ _ x=>x
theorem ifN {c:TT} {a b:TS} {D:Ends} {σ : St} {H:Hp} (h : ∀ N:Bool → Hp → Prop,(∀ k H',(if k = true then a D σ H' else b D σ H') → N k H') → c σ H N) : j7e c a b D σ H:=h _ fun _ _ x=>x
structure Kp where
 held:List Int
 ph:List Int
 done:List O
 kl:List O
 unv:List O
 cho:List ((Int × Int) × O)
 wait:List O
def gI (xs:List Int) (i:Int) : Int:=(xs[i.toNat]?).getD 0
def jan (xs:List Int) (i d:Int) : List Int:=xs.set i.toNat (gI xs i + d)
theorem jdy (xs:List Int) (i d:Int) : (jan xs i d).length = xs.length:=List.length_set ..
theorem jwc {xs:List Int} {i:Int} (h0 : 0 ≤ i) (h:i < xs.length) : xs[i.toNat]? = some (gI xs i):=by
 unfold gI
 rw [List.getElem?_eq_getElem (by omega)]
 rfl
def Kp.past (k:Kp) (o:O) : Bool:=decide (o.n < gI k.ph o.p)
def Kp.due (k:Kp) (o:O) : Bool:=decide (o.n = gI k.ph o.p) && decide (o.m ≤ gI k.held o.p)
def Kp.settle (k:Kp) (o:O) : Kp:={ k with held:=jan (jan k.held o.p (-o.m)) o.g o.m,ph:=jan k.ph o.p 1,done:=k.done ++ [o] }
def jp6 (c:List ((Int × Int) × O)) (o:O) : Bool:=c.any fun x=>decide (x.1 = (o.p,o.n))
abbrev Gv:=List ((Int × Int) × O) × List O × List O
def gvS (k:Kp) (o:O) (a:Gv) : Gv:=if (k.due o && !jp6 a.1 o) = true then (a.1 ++ [((o.p,o.n),o)],a.2.1 ++ [o],a.2.2) else if (!k.past o && !jp6 a.1 o) = true then (a.1,a.2.1,a.2.2 ++ [o]) else a
def gv (k:Kp) (os:List O) (a:Gv) : Gv:=os.foldl (fun a o=>gvS k o a) a
def Kp.zq (k:Kp) : Kp × List O:=({ k with cho:=(gv k k.unv (k.cho,[],[])).1,unv:=(gv k k.unv (k.cho,[],[])).2.2 },(gv k k.unv (k.cho,[],[])).2.1)
def Kp.first (k:Kp) : Option O:=k.wait.find? k.due
def Kp.step (k:Kp) (o:O) : Kp:={ k with wait:=k.wait.erase o }.settle o
def Kp.go:Nat → Kp → Kp
 | 0,k=>k
 | n + 1,k=>match k.first with
  | none=>k
  | some o=>Kp.go n (k.step o)
def Kp.j07 (k:Kp) : Kp:=Kp.go k.wait.length k
def Kp.j1j (k:Kp) (o:O) : Kp × List O:=if o ∈ k.kl then (k,[]) else Kp.zq { k with kl:=k.kl ++ [o],unv:=k.unv ++ [o] }
def Kp.jp1 (k:Kp) (o:O) : Kp × List O:=if (k.past o || decide (o ∈ k.wait)) = true then (k,[]) else (Kp.j07 { k with wait:=k.wait ++ [o] }).zq
structure Kp.Ok (n:Nat) (k:Kp) : Prop where
 h:k.held.length = n
 x:k.ph.length = n
 u : ∀ o ∈ k.unv,xk n o = true
 w : ∀ o ∈ k.wait,xk n o = true
 nd:k.wait.Nodup
theorem Kp.Ok.settle {n:Nat} {k:Kp} (q:k.Ok n) (o:O) : (k.settle o).Ok n:=⟨by show (jan (jan _ _ _) _ _).length = n; rw [jdy,jdy]; exact q.h,by show (jan _ _ _).length = n; rw [jdy]; exact q.x,q.u,q.w,q.nd⟩
theorem Kp.Ok.step {n:Nat} {k:Kp} (q:k.Ok n) (o:O) : (k.step o).Ok n:=Kp.Ok.settle (k:={ k with wait:=k.wait.erase o }) ⟨q.h,q.x,q.u,fun o' h=>q.w o' (List.mem_of_mem_erase h),q.nd.erase o⟩ o
theorem jn5 (k:Kp) {P:O → Prop} : ∀ (os:List O) (a:Gv),(∀ o ∈ os,P o) → (∀ o ∈ a.2.2,P o) → ∀ o ∈ (gv k os a).2.2,P o
 | [],a,_,h=>h
 | o :: os,a,h1,h2=>by
  unfold gv
  rw [List.foldl_cons]
  refine jn5 k os _ (fun o' h=>h1 o' (List.mem_cons_of_mem _ h)) ?_
  unfold gvS
  split
  ·exact h2
  ·split
   ·intro o' h
    rcases List.mem_append.mp h with h | h
    ·exact h2 o' h
    ·rw [List.mem_singleton.mp h]
     exact h1 o List.mem_cons_self
   ·exact h2
theorem Kp.Ok.zq {n:Nat} {k:Kp} (q:k.Ok n) : k.zq.1.Ok n:=⟨q.h,q.x,jn5 k k.unv _ q.u (fun o h=>by cases h),q.w,q.nd⟩
inductive Part where
 | x | wy | ak | bd | sd | sg | kd
 | row (i:Nat)
 | kp (h:Int) (f:Nat)
 | own (i:Nat)
 deriving DecidableEq
abbrev Role:=Nat × Part
abbrev Rho:=Addr → Option Role
def jt9:HO → Prop
 | .tup _=>False
 | .frz _ (.tup _)=>False
 | _=>True
def OkR (ρ : Rho) (H:Hp) : Prop:=∀ a r,ρ a = some r → ∃ u,H a = some u ∧ jt9 u
def Fr (P:Role → Prop) (ρ : Rho) (H:Hp) (ρ':Rho) (H':Hp) : Prop:=∀ a u,H a = some u → (∀ r,ρ a = some r → ¬ P r) → H' a = some u ∧ ρ' a = ρ a
def jaz (ρ : Rho) (p:Addr) (r:Role) : Rho:=fun a=>if a = p then some r else ρ a
theorem zm {ρ : Rho} {p:Addr} {r:Role} : jaz ρ p r p = some r:=if_pos rfl
theorem xl {ρ : Rho} {p a:Addr} {r:Role} (h:a ≠ p) : jaz ρ p r a = ρ a:=if_neg h
theorem Fr.refl {P:Role → Prop} {ρ : Rho} {H:Hp} : Fr P ρ H ρ H:=fun _ _ e _=>⟨e,rfl⟩
theorem Fr.trans {P:Role → Prop} {ρ ρ' ρ'':Rho} {H H' H'':Hp} (f:Fr P ρ H ρ' H') (g:Fr P ρ' H' ρ'' H'') : Fr P ρ H ρ'' H'':=fun a u e n=>by
 obtain ⟨e1,r1⟩:=f a u e n
 obtain ⟨e2,r2⟩:=g a u e1 (fun r h=>n r (r1 ▸ h))
 exact ⟨e2,r2.trans r1⟩
theorem Fr.mono {P P':Role → Prop} {ρ ρ':Rho} {H H':Hp} (h : ∀ r,P r → P' r) (f:Fr P ρ H ρ' H') : Fr P' ρ H ρ' H':=fun a u e n=>f a u e fun r hr p=>n r hr (h r p)
theorem Fr.same {P:Role → Prop} {ρ : Rho} {H H':Hp} (s:wz H H') : Fr P ρ H ρ H':=fun _ _ e _=>⟨s _ _ e,rfl⟩
theorem OkR.same {ρ : Rho} {H H':Hp} (s:wz H H') (o:OkR ρ H) : OkR ρ H':=fun a r h=>let ⟨u,e,n⟩:=o a r h; ⟨u,s _ _ e,n⟩
theorem OkR.none {ρ : Rho} {H:Hp} {p:Addr} (o:OkR ρ H) (h:H p = none) : ρ p = .none:=by
 cases e : ρ p with
 | none=>rfl
 | some r=>
  obtain ⟨u,q,_⟩:=o p r e
  rw [h] at q
  cases q
theorem OkR.tup {ρ : Rho} {H:Hp} {p:Addr} {xs:List V} (o:OkR ρ H) (h:H p = some (.tup xs)) : ρ p = .none:=by
 cases e : ρ p with
 | none=>rfl
 | some r=>
  obtain ⟨u,q,n⟩:=o p r e
  rw [h] at q
  cases q
  exact n.elim
theorem Fr.put {P:Role → Prop} {ρ : Rho} {H:Hp} {a:Addr} {r:Role} {o:HO} (h : ρ a = some r) (p:P r) : Fr P ρ H ρ (upd H a o):=fun b u e n=>by
 have:b ≠ a:=fun z=>n r (z ▸ h) p
 exact ⟨by rw [je this]; exact e,rfl⟩
theorem OkR.put {ρ : Rho} {H:Hp} {a:Addr} {o:HO} (k:OkR ρ H) (ho:jt9 o:=by exact True.intro) : OkR ρ (upd H a o):=fun b r h=>by
 by_cases z:b = a
 ·subst z
  exact ⟨_,ja,ho⟩
 ·obtain ⟨u,e,n⟩:=k b r h
  exact ⟨u,by rw [je z]; exact e,n⟩
theorem Fr.jnx {P:Role → Prop} {ρ : Rho} {H:Hp} {p:Addr} {r:Role} {o:HO} (n:H p = none) : Fr P ρ H (jaz ρ p r) (upd H p o):=fun b u e _=>by
 have:b ≠ p:=jk e n
 exact ⟨by rw [je this]; exact e,xl this⟩
theorem OkR.jnx {ρ : Rho} {H:Hp} {p:Addr} {r:Role} {o:HO} (k:OkR ρ H) (ho:jt9 o:=by exact True.intro) : OkR (jaz ρ p r) (upd H p o):=fun b r' h=>by
 by_cases z:b = p
 ·subst z
  exact ⟨_,ja,ho⟩
 ·rw [xl z] at h
  obtain ⟨u,e,n⟩:=k b r' h
  exact ⟨u,by rw [je z]; exact e,n⟩
theorem ner {ρ : Rho} {a b:Addr} {r r':Role} (ha : ρ a = some r) (hb : ρ b = some r') (n:r ≠ r') : a ≠ b:=fun z=>by
 subst z
 rw [ha] at hb
 exact n (Option.some.inj hb)
theorem neu {ρ : Rho} {a b:Addr} {r:Role} (ha : ρ a = none) (hb : ρ b = some r) : a ≠ b:=fun z=>by
 subst z
 rw [ha] at hb
 cases hb
def zj (H:Hp) (ρ : Rho) (x:V) (o:O) : Prop:=∃ a,x = .ref a ∧ ρ a = none ∧ H a = some (.tup (jn9 o))
theorem zj.fr {P:Role → Prop} {ρ ρ':Rho} {H H':Hp} {x:V} {o:O} (f:Fr P ρ H ρ' H') (h:zj H ρ x o) : zj H' ρ' x o:=by
 obtain ⟨a,e,n,q⟩:=h
 obtain ⟨q',n'⟩:=f a _ q fun r hr=>by rw [n] at hr; cases hr
 exact ⟨a,e,n'.trans n,q'⟩
theorem zj.at_ {H:Hp} {ρ : Rho} {x:V} {o:O} (h:zj H ρ x o) : j62 H x o:=let ⟨a,e,_,q⟩:=h; ⟨a,e,q⟩
def jn4 (o:O) : List Key:=[.inl o.p,.inl o.n,.inl o.g,.inl o.m]
theorem j0j {o u:O} (h:jn4 o = jn4 u) : o = u:=by
 cases o
 cases u
 unfold jn4 at h
 simp at h
 simp [h]
def bkf (he nn dn:Addr) : List (Str × V):=pf "done" (.ref dn) (pf "next_numbers" (.ref nn) (pf "held" (.ref he) []))
def kf (he nn dn hd un cs wt:Addr) : List (Str × V):=pf "waiting" (.ref wt) (pf "choices" (.ref cs) (pf "unvoted" (.ref un) (pf "heard" (.ref hd) (bkf he nn dn))))
abbrev kfA (A:Nat → Addr) : List (Str × V):=kf (A 1) (A 2) (A 3) (A 4) (A 5) (A 6) (A 7)
def jr8 (H:Hp) (ρ : Rho) (κ : Kp) (f:Nat) (u:HO) : Prop:=match f with
 | 1=>u = .lst (κ.held.map V.int)
 | 2=>u = .lst (κ.ph.map V.int)
 | 3=>∃ xs,u = .lst xs ∧ Paired (zj H ρ) xs κ.done
 | 4=>∃ kvs,u = .dT kvs ∧ kvs.map (·.1) = κ.kl.map jn4
 | 5=>∃ xs,u = .lst xs ∧ Paired (zj H ρ) xs κ.unv
 | 6=>∃ kvs,u = .dT kvs ∧ Paired (fun kv (c:(Int × Int) × O)=>kv.1 = [.inl c.1.1,.inl c.1.2] ∧ zj H ρ kv.2 c.2) kvs κ.cho
 | 7=>∃ xs,u = .lst xs ∧ Paired (zj H ρ) xs κ.wait
 | _=>True
theorem jr8.fr {P:Role → Prop} {ρ ρ':Rho} {H H':Hp} {κ : Kp} {f:Nat} {u:HO} (fr:Fr P ρ H ρ' H') (h:jr8 H ρ κ f u) : jr8 H' ρ' κ f u:=by
 unfold jr8 at h ⊢
 split at h
 ·exact h
 ·exact h
 ·obtain ⟨xs,e,p⟩:=h
  exact ⟨xs,e,Paired.pz p fun _ _=>zj.fr fr⟩
 ·exact h
 ·obtain ⟨xs,e,p⟩:=h
  exact ⟨xs,e,Paired.pz p fun _ _=>zj.fr fr⟩
 ·obtain ⟨xs,e,p⟩:=h
  exact ⟨xs,e,Paired.pz p fun _ _ ⟨a,b⟩=>⟨a,b.fr fr⟩⟩
 ·obtain ⟨xs,e,p⟩:=h
  exact ⟨xs,e,Paired.pz p fun _ _=>zj.fr fr⟩
 ·trivial
structure xj (t:Ad) (H:Hp) (ρ : Rho) (id:Nat) (h:Int) (k:Addr) (A:Nat → Addr) (dk:Addr) (κ : Kp) : Prop where
 ob:H k = some (.ins t.j3 dk (kfA A))
 r0 : ρ k = some (id,.kp h 0)
 fl : ∀ f,1 ≤ f → f ≤ 7 → ρ (A f) = some (id,.kp h f) ∧ ∃ u,H (A f) = some u ∧ jr8 H ρ κ f u
def isK (id:Nat) (h:Int) : Role → Prop:=fun r=>∃ f,r = (id,.kp h f)
section
variable {t:Ad} {H H':Hp} {ρ ρ':Rho} {id:Nat} {h:Int} {k dk:Addr} {A:Nat → Addr} {κ κ':Kp} {P:Role → Prop}
theorem xj.fr (hP : ∀ f,¬ P (id,.kp h f)) (f:Fr P ρ H ρ' H') (K:xj t H ρ id h k A dk κ) : xj t H' ρ' id h k A dk κ:=by
 obtain ⟨e1,r1⟩:=f _ _ K.ob fun r hr=>by rw [K.r0] at hr; cases hr; exact hP 0
 refine ⟨e1,r1.trans K.r0,fun i h1 h7=>?_⟩
 obtain ⟨ri,u,hu,q⟩:=K.fl i h1 h7
 obtain ⟨e2,r2⟩:=f _ _ hu fun r hr=>by rw [ri] at hr; cases hr; exact hP i
 exact ⟨r2.trans ri,u,e2,q.fr f⟩
theorem xj.put (K:xj t H ρ id h k A dk κ) {f0:Nat} (h1 : 1 ≤ f0) (h7:f0 ≤ 7) {u0:HO} (q0:jr8 (upd H (A f0) u0) ρ κ' f0 u0) (hs : ∀ f u,f ≠ f0 → jr8 H ρ κ f u → jr8 H ρ κ' f u) : xj t (upd H (A f0) u0) ρ id h k A dk κ' ∧ Fr (isK id h) ρ H ρ (upd H (A f0) u0):=by
 obtain ⟨r0,_⟩:=K.fl f0 h1 h7
 have fr:Fr (isK id h) ρ H ρ (upd H (A f0) u0):=Fr.put r0 ⟨f0,rfl⟩
 refine ⟨⟨?_,K.r0,fun f a b=>?_⟩,fr⟩
 ·rw [je (ner K.r0 r0 (by intro z; cases z; omega))]
  exact K.ob
 ·obtain ⟨rf,u,hu,q⟩:=K.fl f a b
  by_cases z:f = f0
  ·subst z
   exact ⟨rf,_,ja,q0⟩
  ·refine ⟨rf,u,?_,(hs f u z q).fr fr⟩
   rw [je (ner rf r0 (by intro y; cases y; exact z rfl))]
   exact hu
end
theorem xi (A:Nat → Addr) : (kfA A).lookup ("held" : Str) = some (.ref (A 1)) ∧ (kfA A).lookup ("next_numbers" : Str) = some (.ref (A 2)) ∧ (kfA A).lookup ("done" : Str) = some (.ref (A 3)) ∧ (kfA A).lookup ("heard" : Str) = some (.ref (A 4)) ∧ (kfA A).lookup ("unvoted" : Str) = some (.ref (A 5)) ∧ (kfA A).lookup ("choices" : Str) = some (.ref (A 6)) ∧ (kfA A).lookup ("waiting" : Str) = some (.ref (A 7)):=by
 unfold kfA kf bkf
 refine ⟨?_,?_,?_,?_,?_,?_,?_⟩ <;> repeat (first | rw [jl,if_pos rfl] | rw [jl,if_neg (by decide +kernel)])
theorem jc7 (A:Nat → Addr) {m:Str} (h : ¬ m = "waiting" ∧ ¬ m = "choices" ∧ ¬ m = "unvoted" ∧ ¬ m = "heard" ∧ ¬ m = "done" ∧ ¬ m = "next_numbers" ∧ ¬ m = "held" := by decide +kernel) : (kfA A).lookup m = none:=by
 obtain ⟨h1,h2,h3,h4,h5,h6,h7⟩:=h
 unfold kfA kf bkf
 rw [jl,if_neg h1,jl,if_neg h2,jl,if_neg h3,jl,if_neg h4,jl,if_neg h5,jl,if_neg h6,jl,if_neg h7]
 rfl
theorem xj.he {t:Ad} {H:Hp} {ρ : Rho} {id:Nat} {h:Int} {k dk:Addr} {A:Nat → Addr} {κ : Kp} (K:xj t H ρ id h k A dk κ) : H (A 1) = some (.lst (κ.held.map V.int)):=by
 obtain ⟨_,u,hu,q⟩:=K.fl 1 (by decide) (by decide)
 rw [hu,show u = _ from q]
theorem xj.nn {t:Ad} {H:Hp} {ρ : Rho} {id:Nat} {h:Int} {k dk:Addr} {A:Nat → Addr} {κ : Kp} (K:xj t H ρ id h k A dk κ) : H (A 2) = some (.lst (κ.ph.map V.int)):=by
 obtain ⟨_,u,hu,q⟩:=K.fl 2 (by decide) (by decide)
 rw [hu,show u = _ from q]
theorem xj.dn {t:Ad} {H:Hp} {ρ : Rho} {id:Nat} {h:Int} {k dk:Addr} {A:Nat → Addr} {κ : Kp} (K:xj t H ρ id h k A dk κ) : ∃ xs,H (A 3) = some (.lst xs) ∧ Paired (zj H ρ) xs κ.done:=by
 obtain ⟨_,u,hu,xs,rfl,q⟩:=K.fl 3 (by decide) (by decide)
 exact ⟨xs,hu,q⟩
theorem xj.hd {t:Ad} {H:Hp} {ρ : Rho} {id:Nat} {h:Int} {k dk:Addr} {A:Nat → Addr} {κ : Kp} (K:xj t H ρ id h k A dk κ) : ∃ kvs,H (A 4) = some (.dT kvs) ∧ kvs.map (·.1) = κ.kl.map jn4:=by
 obtain ⟨_,u,hu,xs,rfl,q⟩:=K.fl 4 (by decide) (by decide)
 exact ⟨xs,hu,q⟩
theorem xj.un {t:Ad} {H:Hp} {ρ : Rho} {id:Nat} {h:Int} {k dk:Addr} {A:Nat → Addr} {κ : Kp} (K:xj t H ρ id h k A dk κ) : ∃ xs,H (A 5) = some (.lst xs) ∧ Paired (zj H ρ) xs κ.unv:=by
 obtain ⟨_,u,hu,xs,rfl,q⟩:=K.fl 5 (by decide) (by decide)
 exact ⟨xs,hu,q⟩
theorem xj.cs {t:Ad} {H:Hp} {ρ : Rho} {id:Nat} {h:Int} {k dk:Addr} {A:Nat → Addr} {κ : Kp} (K:xj t H ρ id h k A dk κ) : ∃ kvs,H (A 6) = some (.dT kvs) ∧ Paired (fun kv (c:(Int × Int) × O)=>kv.1 = [.inl c.1.1,.inl c.1.2] ∧ zj H ρ kv.2 c.2) kvs κ.cho:=by
 obtain ⟨_,u,hu,xs,rfl,q⟩:=K.fl 6 (by decide) (by decide)
 exact ⟨xs,hu,q⟩
theorem xj.wt {t:Ad} {H:Hp} {ρ : Rho} {id:Nat} {h:Int} {k dk:Addr} {A:Nat → Addr} {κ : Kp} (K:xj t H ρ id h k A dk κ) : ∃ xs,H (A 7) = some (.lst xs) ∧ Paired (zj H ρ) xs κ.wait:=by
 obtain ⟨_,u,hu,xs,rfl,q⟩:=K.fl 7 (by decide) (by decide)
 exact ⟨xs,hu,q⟩
theorem jtp {n:Nat} {o:O} {xs:List Int} (h:xk n o = true) (l:xs.length = n) : xs[o.p.toNat]? = some (gI xs o.p) ∧ 0 ≤ o.p ∧ o.p < n:=by
 obtain ⟨a1,a2,_⟩:=zy.mp h
 exact ⟨jwc a1 (by omega),a1,by omega⟩
theorem jcs (T:Txt K mg t) : yf P w K mg base CX0 1 t.jax t.jd9 ["self","order"] (fun vs H Q _=>∃ ρ id h k A dk κ n q o,vs = [.ref k,.ref q] ∧ xj t H ρ id h k A dk κ ∧ H q = some (.tup (jn9 o)) ∧ xk (n:Nat) o = true ∧ κ.ph.length = n ∧ Q (.bl (κ.past o)) H):=by
 refine T.jiu.ok jod (fun vs H Q E h=>?_) (fun cdv A outer s H vs Q E hr h=>?_)
 ·obtain ⟨ρ,id,h,k,A,dk,κ,n,q,o,rfl,_⟩:=h
  rfl
 ·obtain ⟨ρ,id,h,k,A',dk,κ,n,q,o,rfl,R,hq,ho,l,g⟩:=h
  refine ⟨_,(@jd _ _ _ (j4 (jeh jz1 (jai ji2 (pv 1) jn (fun _ _=>rfl)) (jai gc (j9 (pv 0) rfl) (jai ji2 (pv 1) jn (fun _ _=>rfl)) (fun _ _=>rfl)) (qf _)))),?_⟩
  obtain ⟨e,p0,_⟩:=jtp ho l
  refine ⟨_,rfl,q,jn9 o,1,.int o.n,rfl,rfl,SqT.of hq,rfl,_,rfl,k,_,dk,_,_,rfl,R.ob,T.jm,T.qw,(xi A').2.1,_,rfl,q,jn9 o,0,.int o.p,rfl,rfl,SqT.of hq,rfl,A' 2,_,o.p,.int (gI κ.ph o.p),rfl,rfl,SqL.of R.nn,jhn p0 (by rw [List.getElem?_map,e]; rfl),_,_,rfl,rfl,g⟩
theorem jiv (T:Txt K mg t) : yf P w K mg base CX0 1 t.jb9 t.jf0 ["self","order"] (fun vs H Q _=>∃ ρ id h k A dk κ n q o,vs = [.ref k,.ref q] ∧ xj t H ρ id h k A dk κ ∧ H q = some (.tup (jn9 o)) ∧ xk (n:Nat) o = true ∧ κ.ph.length = n ∧ κ.held.length = n ∧ Q (.bl (κ.due o)) H):=by
 refine T.jky.ok gg (fun vs H Q E h=>?_) (fun cdv A outer s H vs Q E hr h=>?_)
 ·obtain ⟨ρ,id,h,k,A,dk,κ,n,q,o,rfl,_⟩:=h
  rfl
 ·obtain ⟨ρ,id,h,k,A',dk,κ,n,q,o,rfl,R,hq,ho,l,l2,g⟩:=h
  refine ⟨_,(@jb _ _ _ _ _ (jm8 (pv 1) (jpc rfl (j7 (ju (i:=2) gg.nd rfl (Or.inl rfl)) (j7 (ju (i:=3) gg.nd rfl (Or.inl rfl)) (j7 (ju (i:=4) gg.nd rfl (Or.inl rfl)) (j7 (ju (i:=5) gg.nd rfl (Or.inl rfl)) jj6))))))
   (@jd _ _ _ (j4 (jpo (jeh jin (pv 3) (jai gc (j9 (pv 0) rfl) (pv 2) (fun _ _=>rfl)) (qf _)) (jql (jeh jx0 (pv 5) (jai gc (j9 (pv 0) rfl) (pv 2) (fun _ _=>rfl)) (qf _))))))),?_⟩
  obtain ⟨e,p0,_⟩:=jtp ho l
  obtain ⟨e2,_,_⟩:=jtp ho l2
  refine ⟨_,rfl,q,_,rfl,SqT.of hq,rfl,_,_,rfl,_,_,rfl,_,_,rfl,_,_,rfl,rfl,?_⟩
  refine ⟨_,rfl,_,rfl,k,_,dk,_,_,rfl,R.ob,T.jm,T.qw,(xi A').2.1,_,rfl,A' 2,_,o.p,.int (gI κ.ph o.p),rfl,rfl,SqL.of R.nn,jhn p0 (by rw [List.getElem?_map,e]; rfl),rfl,_,rfl,?_⟩
  unfold Kp.due at g
  refine jgn (fun z=>?_) (fun z=>?_)
  ·refine ⟨_,rfl,_,rfl,k,_,dk,_,_,rfl,R.ob,T.jm,T.xu,(xi A').1,_,rfl,A' 1,_,o.p,.int (gI κ.held o.p),rfl,rfl,SqL.of R.he,jhn p0 (by rw [List.getElem?_map,e2]; rfl),_,_,rfl,rfl,?_⟩
   rw [decide_eq_true (V.int.inj (of_decide_eq_true z)),Bool.true_and] at g
   exact g
  ·rw [decide_eq_false (fun y=>z (by rw [y]; exact decide_eq_true rfl)),Bool.false_and] at g
   exact g
theorem jp5 (T:Txt K mg t) : yf P w K mg base CX0 1 t.jca t.jfh ["self","order"] (fun vs H Q _=>∃ ρ id h k A dk κ n q o,vs = [.ref k,.ref q] ∧ xj t H ρ id h k A dk κ ∧ zj H ρ (.ref q) o ∧ xk (n:Nat) o = true ∧ κ.ph.length = n ∧ κ.held.length = n ∧ κ.done.length ≤ 1000 ∧ OkR ρ H ∧
  ∀ H',xj t H' ρ id h k A dk (κ.settle o) → Fr (isK id h) ρ H ρ H' → OkR ρ H' → Q .non H'):=by
 refine T.jkw.ok gf (fun vs H Q E h=>?_) (fun cdv A outer s H vs Q E hr h=>?_)
 ·obtain ⟨ρ,id,h,k,A,dk,κ,n,q,o,rfl,_⟩:=h
  rfl
 ·obtain ⟨ρ,id,h,k,A',dk,κ,n,q,o,rfl,R,uq,ho,l,l2,ld,kr,g⟩:=h
  refine ⟨_,(@jb _ _ _ _ _ (jm8 (pv 1) (jpc rfl (j7 (ju (i:=2) gf.nd rfl (Or.inl rfl)) (j7 (ju (i:=3) gf.nd rfl (Or.inl rfl)) (j7 (ju (i:=4) gf.nd rfl (Or.inl rfl)) (j7 (ju (i:=5) gf.nd rfl (Or.inl rfl)) jj6))))))
   (@jb _ _ _ _ _ (juh (j9 (pv 0) rfl) (pv 2) jq8 (pv 5) j4d set_list)
   (@jb _ _ _ _ _ (juh (j9 (pv 0) rfl) (pv 4) jq8 (pv 5) j06 set_list)
   (@jb _ _ _ _ _ (juh (j9 (pv 0) rfl) (pv 2) jq8 jn j06 set_list)
   (@jd _ _ _ (qe (jj0 PySem.F.plainAttrs_list PySem.F.slot_list_append PySem.F.type_list_append vq (j9 (pv 0) rfl) (jc (pv 1) jf)))))))),?_⟩
  obtain ⟨_,eq,nq,hq⟩:=uq
  cases eq
  obtain ⟨e,p0,p1⟩:=jtp ho l
  obtain ⟨e2,_,_⟩:=jtp ho l2
  refine ⟨_,rfl,q,_,rfl,SqT.of hq,rfl,_,_,rfl,_,_,rfl,_,_,rfl,_,_,rfl,rfl,?_⟩
  obtain ⟨g0,g1⟩:=(fun a=>⟨a.2.2.1,a.2.2.2.1⟩ : _ → 0 ≤ o.g ∧ o.g ≤ (n:Int) - 1) (zy.mp ho)
  refine ⟨_,rfl,k,_,dk,_,_,rfl,R.ob,T.jm,T.xu,(xi A').1,_,rfl,A' 1,_,o.p,.int (gI κ.held o.p),rfl,rfl,SqL.of R.he,p0,(by rw [List.getElem?_map,e2]; rfl),_,rfl,_,_,rfl,rfl,A' 1,_,o.p,_,rfl,rfl,R.he,js4 p0 (by rw [List.length_map]; omega),?_⟩
  have m1:((κ.held.map V.int).set o.p.toNat (.int (gI κ.held o.p - o.m))) = (jan κ.held o.p (-o.m)).map V.int:=by
   rw [jan,List.map_set]
   rfl
  dsimp only
  rw [m1]
  obtain ⟨R1,f1⟩:=R.put (κ':={ κ with held:=jan κ.held o.p (-o.m) }) (f0:=1) (by decide) (by decide) (u0:=.lst ((jan κ.held o.p (-o.m)).map V.int)) rfl (fun f u hf q=>by unfold jr8 at q ⊢; split at q <;> first | exact q | exact absurd rfl hf)
  have kr1:=kr.put (a:=A' 1) (o:=.lst ((jan κ.held o.p (-o.m)).map V.int))
  generalize upd H (A' 1) (.lst ((jan κ.held o.p (-o.m)).map V.int)) = H1 at R1 f1 kr1
  have l3:(jan κ.held o.p (-o.m)).length = n:=(jdy ..).trans l2
  have e3:(jan κ.held o.p (-o.m))[o.g.toNat]? = some (gI (jan κ.held o.p (-o.m)) o.g):=jwc g0 (by omega)
  refine ⟨_,rfl,k,_,dk,_,_,rfl,R1.ob,T.jm,T.xu,(xi A').1,_,rfl,A' 1,_,o.g,.int (gI (jan κ.held o.p (-o.m)) o.g),rfl,rfl,SqL.of R1.he,g0,(by rw [List.getElem?_map,e3]; rfl),_,rfl,_,_,rfl,rfl,A' 1,_,o.g,_,rfl,rfl,R1.he,js4 g0 (by rw [List.length_map]; show o.g.toNat < (jan κ.held o.p (-o.m)).length; omega),?_⟩
  have m2:((jan κ.held o.p (-o.m)).map V.int).set o.g.toNat (.int (gI (jan κ.held o.p (-o.m)) o.g + o.m)) = (jan (jan κ.held o.p (-o.m)) o.g o.m).map V.int:=by
   rw [jan.eq_def (jan κ.held o.p (-o.m)),List.map_set]
  dsimp only
  rw [m2]
  obtain ⟨R2,f2⟩:=R1.put (κ':={ κ with held:=jan (jan κ.held o.p (-o.m)) o.g o.m }) (f0:=1) (by decide) (by decide) (u0:=.lst ((jan (jan κ.held o.p (-o.m)) o.g o.m).map V.int)) rfl (fun f u hf q=>by unfold jr8 at q ⊢; split at q <;> first | exact q | exact absurd rfl hf)
  have kr2:=kr1.put (a:=A' 1) (o:=.lst ((jan (jan κ.held o.p (-o.m)) o.g o.m).map V.int))
  generalize upd H1 (A' 1) (.lst ((jan (jan κ.held o.p (-o.m)) o.g o.m).map V.int)) = H2 at R2 f2 kr2
  refine ⟨_,rfl,k,_,dk,_,_,rfl,R2.ob,T.jm,T.qw,(xi A').2.1,_,rfl,A' 2,_,o.p,.int (gI κ.ph o.p),rfl,rfl,SqL.of R2.nn,p0,(by rw [List.getElem?_map,e]; rfl),_,_,rfl,rfl,A' 2,_,o.p,_,rfl,rfl,R2.nn,js4 p0 (by rw [List.length_map]; show o.p.toNat < κ.ph.length; rw [l]; omega),?_⟩
  have m3:(κ.ph.map V.int).set o.p.toNat (.int (gI κ.ph o.p + 1)) = (jan κ.ph o.p 1).map V.int:=by
   rw [jan,List.map_set]
  dsimp only
  rw [m3]
  obtain ⟨R3,f3⟩:=R2.put (κ':={ κ with held:=jan (jan κ.held o.p (-o.m)) o.g o.m,ph:=jan κ.ph o.p 1 }) (f0:=2) (by decide) (by decide) (u0:=.lst ((jan κ.ph o.p 1).map V.int)) rfl (fun f u hf q=>by unfold jr8 at q ⊢; split at q <;> first | exact q | exact absurd rfl hf)
  have kr3:=kr2.put (a:=A' 2) (o:=.lst ((jan κ.ph o.p 1).map V.int))
  generalize upd H2 (A' 2) (.lst ((jan κ.ph o.p 1).map V.int)) = H3 at R3 f3 kr3
  obtain ⟨xs,hx,px⟩:=R3.dn
  have fr:=(f1.trans f2).trans f3
  have uq3:zj H3 ρ (.ref q) o:=zj.fr fr ⟨q,rfl,nq,hq⟩
  have lx:xs.length ≤ 1000:=by rw [Paired.length px]; exact ld
  refine ⟨_,rfl,k,_,dk,_,_,rfl,R3.ob,T.jm,T.ja2,(xi A').2.2.1,.inl ⟨rfl,_,SqL.of hx⟩,_,rfl,A' 3,xs,.ref q,rfl,rfl,hx,xt lx,?_⟩
  obtain ⟨r3,_⟩:=R3.fl 3 (by decide) (by decide)
  obtain ⟨R4,f4⟩:=R3.put (κ':=κ.settle o) (f0:=3) (by decide) (by decide) (u0:=.lst (xs ++ [.ref q])) ⟨_,rfl,qy (Paired.pz px fun _ _=>zj.fr (Fr.put (P:=isK id h) r3 ⟨3,rfl⟩)) (uq3.fr (Fr.put (P:=isK id h) r3 ⟨3,rfl⟩))⟩ (fun f u hf q=>by unfold jr8 at q ⊢; split at q <;> first | exact q | exact absurd rfl hf)
  exact g _ R4 (fr.trans f4) kr3.put
theorem zj.ref {H:Hp} {ρ : Rho} {x:V} {o:O} (h:zj H ρ x o) : ∃ q,x = .ref q ∧ H q = some (.tup (jn9 o)):=let ⟨q,e,_,h⟩:=h; ⟨q,e,h⟩
theorem jci (T:Txt K mg t) : yf P w K mg base CX0 2 t.uz t.jad ["self"] (fun vs H Q _=>∃ ρ id h k A dk κ n,vs = [.ref k] ∧ xj t H ρ id h k A dk κ ∧ κ.Ok n ∧ ∀ v,((κ.first = none ∧ v = .non) ∨ ∃ o,κ.first = some o ∧ zj H ρ v o) → Q v H):=by
 refine T.jds.ok jch (fun vs H Q E h=>?_) (fun cdv A outer s H vs Q E hr h=>?_)
 ·obtain ⟨ρ,id,h,k,A,dk,κ,n,rfl,_⟩:=h
  rfl
 ·obtain ⟨ρ,id,h,k,A',dk,κ,n,rfl,R,hok,g⟩:=h
  refine ⟨_,(@jb _ _ _ _ _ (jg7 PassesOwn.never rfl (@jbh _ _ _ _ (j9 (pv 0) rfl)) (ju (i:=1) jch.nd rfl (Or.inl rfl)) (@jd _ _ _ (zo (xb (j6 (pv 0) T.jm T.jbu (jiv T) hr.dn T.jfa .nil jr (jc (pv 1) jf))) (@jd _ _ _ (j4 (pv 1))) qc)))
   (@jd _ _ _ (j4 ji4))),?_⟩
  obtain ⟨xs,hx,px⟩:=R.wt
  refine ⟨_,rfl,k,_,dk,_,_,rfl,R.ob,T.jm,T.za,(xi A').2.2.2.2.2.2,A' 7,rfl,⟨_,SqL.of hx⟩,jfy (K:=K) (a:=A' 7) (xs:=xs) (fun i σ H'=>∃ v,σ = [some (.ref k),v] ∧ H' = H ∧ (κ.wait.take i).find? κ.due = none) ⟨none,rfl,rfl,rfl⟩ (fun i σ H' _ ⟨_,_,e,_⟩=>SqL.of (by rw [e]; exact hx)) ?_ ?_⟩
  ·rintro i x σ H' ex ⟨v,rfl,rfl,hf⟩
   obtain ⟨o,eo,uo⟩:=qi px ex
   obtain ⟨q,rfl,hq⟩:=uo.ref
   have om:o ∈ κ.wait:=List.mem_of_getElem? eo
   refine ⟨_,rfl,k,dk,_,rfl,R.ob,jc7 A',_,rfl,ρ,id,h,k,A',dk,κ,n,q,o,rfl,R,hq,hok.w o om,hok.x,hok.h,_,rfl,?_⟩
   cases hd : κ.due o with
   | true=>
    refine jno ⟨_,rfl,g _ (.inr ⟨o,?_,uo⟩)⟩
    have:(κ.wait.take (i + 1)).find? κ.due = some o:=by
     rw [take_snoc eo,List.find?_append,hf,List.find?_cons,hd]
     rfl
    unfold Kp.first
    rw [← List.take_append_drop (i + 1) κ.wait,List.find?_append,this]
    rfl
   | false=>
    refine pq ⟨_,rfl,rfl,?_⟩
    rw [take_snoc eo,List.find?_append,hf,List.find?_cons,hd]
    rfl
  ·rintro σ H' ⟨v,rfl,rfl,hf⟩
   refine g _ (.inl ⟨?_,rfl⟩)
   rw [Paired.length px,List.take_length] at hf
   exact hf
theorem Fr.reR {P:Role → Prop} {ρ : Rho} {H:Hp} {a:Addr} {r r':Role} (h : ρ a = some r) (p:P r) : Fr P ρ H (jaz ρ a r') H:=fun b u e n=>by
 have:b ≠ a:=fun z=>n r (z ▸ h) p
 exact ⟨e,xl this⟩
theorem OkR.reR {ρ : Rho} {H:Hp} {a:Addr} {r r':Role} (h : ρ a = some r) (k:OkR ρ H) : OkR (jaz ρ a r') H:=fun b r'' hb=>by
 by_cases z:b = a
 ·subst z
  exact k _ _ h
 ·rw [xl z] at hb
  exact k _ _ hb
theorem jy0 {H:Hp} {ρ : Rho} {o:O} : ∀ {kvs:List (List Key × V)} {c:List ((Int × Int) × O)},Paired (fun kv (c:(Int × Int) × O)=>kv.1 = [.inl c.1.1,.inl c.1.2] ∧ zj H ρ kv.2 c.2) kvs c → (jgm kvs [.inl o.p,.inl o.n]).isSome = jp6 c o
 | _,_,.nil=>rfl
 | kv :: kvs,c :: cs,.cons ⟨e,_⟩ r=>by
  have ih:=jy0 (o:=o) r
  unfold jp6 at ih ⊢
  rw [List.any_cons]
  by_cases z:c.1 = (o.p,o.n)
  ·rw [jb6 (show kv.1 = _ by rw [e,z]),decide_eq_true z]
   rfl
  ·rw [jb4 (fun y=>z ?_),ih,decide_eq_false z,Bool.false_or]
   rw [e] at y
   have y1:=(List.cons.inj y).1
   have y2:=(List.cons.inj (List.cons.inj y).2).1
   exact Prod.ext (Sum.inl.inj y1) (Sum.inl.inj y2)
theorem j73 {n:Nat} {o:O} (h:xk n o = true) (l:n ≤ 8) : xk 8 o = true:=by
 rw [zy] at h ⊢
 omega
theorem j2e (κ : Kp) {os:List O} {i:Nat} {o:O} (e:os[i]? = some o) (a:Gv) : gv κ (os.take (i + 1)) a = gvS κ o (gv κ (os.take i) a):=by
 unfold gv
 rw [take_snoc e,List.foldl_append]
 rfl
theorem j1y (κ : Kp) (o:O) (a:Gv) : (gvS κ o a).1.length ≤ a.1.length + 1 ∧ (gvS κ o a).2.1.length ≤ a.2.1.length + 1 ∧ (gvS κ o a).2.2.length ≤ a.2.2.length + 1:=by
 unfold gvS
 split
 ·simp
 ·split
  ·simp
  ·simp
theorem jvg (κ : Kp) : ∀ (os:List O) (a:Gv),(gv κ os a).1.length ≤ a.1.length + os.length ∧ (gv κ os a).2.1.length ≤ a.2.1.length + os.length ∧ (gv κ os a).2.2.length ≤ a.2.2.length + os.length
 | [],a=>by simp [gv]
 | o :: os,a=>by
  have h1:=jvg κ os (gvS κ o a)
  have h2:=j1y κ o a
  unfold gv at h1 ⊢
  rw [List.foldl_cons,List.length_cons]
  omega
structure GvJ (t:Ad) (ρ : Rho) (id:Nat) (h:Int) (k:Addr) (A:Nat → Addr) (dk:Addr) (κ : Kp) (Vt Lt:Addr) (xs:List V) (H0:Hp) (a:Gv) (H:Hp) : Prop where
 fr:Fr (isK id h) ρ H0 ρ H
 kr:OkR ρ H
 R:xj t H ρ id h k A dk { κ with cho:=a.1 }
 hv : ∃ vs,H Vt = some (.lst vs) ∧ Paired (zj H ρ) vs a.2.1
 hl : ∃ ls,H Lt = some (.lst ls) ∧ Paired (zj H ρ) ls a.2.2
 hx:H (A 5) = some (.lst xs)
 px:Paired (zj H ρ) xs κ.unv
theorem GvJ.same {t:Ad} {ρ : Rho} {id:Nat} {h:Int} {k:Addr} {A:Nat → Addr} {dk:Addr} {κ : Kp} {Vt Lt:Addr} {xs:List V} {H0 H H':Hp} {a:Gv} (s:wz H H') (J:GvJ t ρ id h k A dk κ Vt Lt xs H0 a H) : GvJ t ρ id h k A dk κ Vt Lt xs H0 a H':=by
 have f:Fr (fun _=>False) ρ H ρ H':=Fr.same s
 obtain ⟨vs,v1,v2⟩:=J.hv
 obtain ⟨ls,l1,l2⟩:=J.hl
 exact ⟨J.fr.trans (Fr.same s),J.kr.same s,J.R.fr (fun _ z=>z) f,⟨vs,s _ _ v1,Paired.pz v2 fun _ _=>zj.fr f⟩,⟨ls,s _ _ l1,Paired.pz l2 fun _ _=>zj.fr f⟩,s _ _ J.hx,Paired.pz J.px fun _ _=>zj.fr f⟩
theorem GvJ.putL {t:Ad} {ρ : Rho} {id:Nat} {h:Int} {k:Addr} {A:Nat → Addr} {dk:Addr} {κ : Kp} {Vt Lt:Addr} {xs ls ls':List V} {H0 H:Hp} {a:Gv} {later:List O} (J:GvJ t ρ id h k A dk κ Vt Lt xs H0 a H) (hl:H Lt = some (.lst ls)) (rL : ρ Lt = some (id,.kp h 9)) (rV : ρ Vt = some (id,.kp h 8)) (LV:Lt ≠ Vt)
  (fL:Fr (isK id h) ρ H ρ (upd H Lt (.lst ls'))) (pl:Paired (zj (upd H Lt (.lst ls')) ρ) ls' later) : GvJ t ρ id h k A dk κ Vt Lt xs H0 (a.1,a.2.1,later) (upd H Lt (.lst ls')):=by
 have f9:Fr (fun r=>r = (id,.kp h 9)) ρ H ρ (upd H Lt (.lst ls')):=Fr.put rL rfl
 obtain ⟨vs,v1,v2⟩:=J.hv
 have nf : ∀ {f:Nat},f ≤ 7 → ∀ {b:Addr},ρ b = some (id,.kp h f) → b ≠ Lt:=fun {f} hf {b} hb=>ner hb rL (by intro z; cases z; omega)
 refine ⟨J.fr.trans fL,J.kr.put,⟨?_,J.R.r0,fun f a1 b1=>?_⟩,⟨vs,?_,Paired.pz v2 fun _ _=>zj.fr fL⟩,⟨ls',ja,pl⟩,?_,Paired.pz J.px fun _ _=>zj.fr fL⟩
 ·rw [je (nf (by decide) J.R.r0)]
  exact J.R.ob
 ·obtain ⟨rf,u,hu,q⟩:=J.R.fl f a1 b1
  exact ⟨rf,u,by rw [je (nf b1 rf)]; exact hu,q.fr fL⟩
 ·rw [je LV.symm]
  exact v1
 ·rw [je (nf (by decide) (J.R.fl 5 (by decide) (by decide)).1)]
  exact J.hx
theorem GvJ.j7w {t:Ad} {ρ : Rho} {id:Nat} {h:Int} {k:Addr} {A:Nat → Addr} {dk:Addr} {κ : Kp} {Vt Lt:Addr} {xs vs':List V} {H0 H:Hp} {a:Gv} {zq:List O} (J:GvJ t ρ id h k A dk κ Vt Lt xs H0 a H) (rV : ρ Vt = some (id,.kp h 8)) (LV:Lt ≠ Vt)
  (fL:Fr (isK id h) ρ H ρ (upd H Vt (.lst vs'))) (pv:Paired (zj (upd H Vt (.lst vs')) ρ) vs' zq) : GvJ t ρ id h k A dk κ Vt Lt xs H0 (a.1,zq,a.2.2) (upd H Vt (.lst vs')):=by
 obtain ⟨ls,l1,l2⟩:=J.hl
 have nf : ∀ {f:Nat},f ≤ 7 → ∀ {b:Addr},ρ b = some (id,.kp h f) → b ≠ Vt:=fun {f} hf {b} hb=>ner hb rV (by intro z; cases z; omega)
 refine ⟨J.fr.trans fL,J.kr.put,⟨?_,J.R.r0,fun f a1 b1=>?_⟩,⟨vs',ja,pv⟩,⟨ls,?_,Paired.pz l2 fun _ _=>zj.fr fL⟩,?_,Paired.pz J.px fun _ _=>zj.fr fL⟩
 ·rw [je (nf (by decide) J.R.r0)]
  exact J.R.ob
 ·obtain ⟨rf,u,hu,q⟩:=J.R.fl f a1 b1
  exact ⟨rf,u,by rw [je (nf b1 rf)]; exact hu,q.fr fL⟩
 ·rw [je LV]
  exact l1
 ·rw [je (nf (by decide) (J.R.fl 5 (by decide) (by decide)).1)]
  exact J.hx
theorem GvJ.j7s {t:Ad} {ρ : Rho} {id:Nat} {h:Int} {k:Addr} {A:Nat → Addr} {dk:Addr} {κ : Kp} {Vt Lt:Addr} {xs:List V} {H0 H:Hp} {a:Gv} {cho:List ((Int × Int) × O)} {kvs:List (List Key × V)} (J:GvJ t ρ id h k A dk κ Vt Lt xs H0 a H) (rL : ρ Lt = some (id,.kp h 9)) (rV : ρ Vt = some (id,.kp h 8))
  (pc:Paired (fun kv (c:(Int × Int) × O)=>kv.1 = [.inl c.1.1,.inl c.1.2] ∧ zj (upd H (A 6) (.dT kvs)) ρ kv.2 c.2) kvs cho) : GvJ t ρ id h k A dk κ Vt Lt xs H0 (cho,a.2.1,a.2.2) (upd H (A 6) (.dT kvs)):=by
 obtain ⟨R,fL⟩:=J.R.put (κ':={ κ with cho:=cho }) (f0:=6) (by decide) (by decide) (u0:=.dT kvs) ⟨kvs,rfl,pc⟩ (fun f u hf q=>by unfold jr8 at q ⊢; split at q <;> first | exact q | exact absurd rfl hf)
 obtain ⟨vs,v1,v2⟩:=J.hv
 obtain ⟨ls,l1,l2⟩:=J.hl
 have r6:=(J.R.fl 6 (by decide) (by decide)).1
 refine ⟨J.fr.trans fL,J.kr.put,R,⟨vs,?_,Paired.pz v2 fun _ _=>zj.fr fL⟩,⟨ls,?_,Paired.pz l2 fun _ _=>zj.fr fL⟩,?_,Paired.pz J.px fun _ _=>zj.fr fL⟩
 ·rw [je (ner rV r6 (by intro z; cases z))]
  exact v1
 ·rw [je (ner rL r6 (by intro z; cases z))]
  exact l1
 ·rw [je (ner (J.R.fl 5 (by decide) (by decide)).1 r6 (by intro z; cases z))]
  exact J.hx
theorem j4u (A:Nat → Addr) (p:Addr) : pf "unvoted" (.ref p) (kfA A) = kfA (fun f=>if f = 5 then p else A f):=by
 unfold kfA kf bkf
 rfl
theorem jby (T:Txt K mg t) : yf P w K mg base CX0 5 t.kg t.ki ["self"] (fun vs H Q _=>∃ ρ id h k A dk κ n,vs = [.ref k] ∧ xj t H ρ id h k A dk κ ∧ κ.Ok n ∧ n ≤ 8 ∧ κ.unv.length + κ.cho.length ≤ 1000 ∧ OkR ρ H ∧
    ∀ ρ' H' A' r xs,xj t H' ρ' id h k A' dk κ.zq.1 → Fr (isK id h) ρ H ρ' H' → OkR ρ' H' → ρ' r = some (id,.kp h 8) → H' r = some (.lst xs) → Paired (zj H' ρ') xs κ.zq.2 → Q (.ref r) H'):=by
  refine T.jc2.ok xx (fun vs H Q E h=>?_) (fun cdv A outer s H vs Q E hr h=>?_)
  · obtain ⟨ρ,id,h,k,A,dk,κ,n,rfl,_⟩:=h
    rfl
  · obtain ⟨ρ,id,h,k,A',dk,κ,n,rfl,R,hok,n8,ll,kr,g⟩:=h
    refine ⟨_,(@jb _ _ _ _ _ (@j8 _ _ 1 _ _ _ _ xx.nd rfl (Or.inl rfl) (@zk _ _ _ _ jf) (by rfl) (by first | exact .inl rfl | exact .inr rfl))
      (@jb _ _ _ _ _ (@j8 _ _ 2 _ _ _ _ xx.nd rfl (Or.inl rfl) (@zk _ _ _ _ jf) (by rfl) (by first | exact .inl rfl | exact .inr rfl))
      (@jb _ _ _ _ _ (jg7 PassesOwn.never rfl (@jbh _ _ _ _ (j9 (pv 0) rfl)) (ju (i:=3) xx.nd rfl (Or.inl rfl)) (@jd _ _ _ (zo (PW.pt (jiy (xb (j6 (pv 0) T.jm T.jbu (jiv T) hr.dn T.jfa .nil jr (jc (pv 3) jf))) (jfr (jve (jog (jol hr) (jq (jjf T) hr.dn rfl T.jh6 T.je4.kp T.jia .nil jr (jc (pv 3) jf)) (j9 (pv 0) rfl)))))) (@jb _ _ _ _ _ (jyf (jol hr) (j9 (pv 0) rfl) (jq (jjf T) hr.dn rfl T.jh6 T.je4.kp T.jia .nil jr (jc (pv 3) jf)) (pv 3) rfl)
      (@jd _ _ _ (qe (jj0 PySem.F.plainAttrs_list PySem.F.slot_list_append PySem.F.type_list_append vq (pv 1) (jc (pv 3) jf))))) (@jd _ _ _ (zo (PW.pt (jiy (yi (xb (j6 (pv 0) T.jm T.vz (jcs T) hr.dn T.jau .nil jr (jc (pv 3) jf)))) (jfr (jve (jog (jol hr) (jq (jjf T) hr.dn rfl T.jh6 T.je4.kp T.jia .nil jr (jc (pv 3) jf)) (j9 (pv 0) rfl)))))) (@jd _ _ _ (qe (jj0 PySem.F.plainAttrs_list PySem.F.slot_list_append PySem.F.type_list_append vq (pv 2) (jc (pv 3) jf)))) qc)))))
      (@jb _ _ _ _ _ (jag (pv 0) (pv 2) rfl)
      (@jd _ _ _ (j4 (pv 1))))))),?_⟩
    refine ⟨zs0,fun Vt nV=>⟨zs0,fun Lt nL=>?_⟩⟩
    have kf0 : ∀ f,isK id h (id,.kp h f):=fun f=>⟨f,rfl⟩
    have f1:Fr (isK id h) ρ H (jaz ρ Vt (id,.kp h 8)) (upd H Vt (.lst [])):=Fr.jnx nV
    have kr1:OkR (jaz ρ Vt (id,.kp h 8)) (upd H Vt (.lst [])):=kr.jnx
    have f2:Fr (isK id h) (jaz ρ Vt (id,.kp h 8)) (upd H Vt (.lst [])) (jaz (jaz ρ Vt (id,.kp h 8)) Lt (id,.kp h 9)) (upd (upd H Vt (.lst [])) Lt (.lst [])):=Fr.jnx nL
    have kr2:OkR (jaz (jaz ρ Vt (id,.kp h 8)) Lt (id,.kp h 9)) (upd (upd H Vt (.lst [])) Lt (.lst [])):=kr1.jnx
    generalize eρ : jaz (jaz ρ Vt (id,.kp h 8)) Lt (id,.kp h 9) = ρ2 at f2 kr2
    have f12:=f1.trans f2
    have LV:Lt ≠ Vt:=fun z=>by
      rw [z,ja] at nL
      cases nL
    have rV : ρ2 Vt = some (id,.kp h 8):=by rw [← eρ,xl LV.symm,zm]
    have rL : ρ2 Lt = some (id,.kp h 9):=by rw [← eρ,zm]
    have hV2:upd (upd H Vt (.lst [])) Lt (.lst []) Vt = some (.lst []):=by rw [je LV.symm,ja]
    have hL2:upd (upd H Vt (.lst [])) Lt (.lst []) Lt = some (.lst []):=ja
    have R2:xj t (upd (upd H Vt (.lst [])) Lt (.lst [])) ρ2 id h k A' dk κ:=by
      have s2:=(jg (o:=.lst []) nV).trans (jg (o:=.lst []) nL)
      have nv2 : ∀ {a:Addr} {u:HO},H a = some u → ρ2 a = ρ a:=fun {a u} e=>by
        rw [← eρ,xl (jk ((jg (o:=.lst []) nV) _ _ e) nL),xl (jk e nV)]
      refine ⟨s2 _ _ R.ob,(nv2 R.ob).trans R.r0,fun f a b=>?_⟩
      obtain ⟨rf,u,hu,q⟩:=R.fl f a b
      exact ⟨(nv2 hu).trans rf,u,s2 _ _ hu,q.fr f12⟩
    generalize upd (upd H Vt (.lst [])) Lt (.lst []) = H2 at f12 kr2 R2 hV2 hL2
    obtain ⟨xs,hx,px⟩:=R2.un
    have lx:xs.length = κ.unv.length:=Paired.length px
    clear f1 f2 kr1 nV nL R
    refine ⟨_,rfl,k,_,dk,_,_,rfl,R2.ob,T.jm,T.yc,(xi A').2.2.2.2.1,A' 5,rfl,⟨_,SqL.of hx⟩,jfy (K:=K) (a:=A' 5) (xs:=xs) (fun i σ H'=>∃ v,σ = [some (.ref k),some (.ref Vt),some (.ref Lt),v] ∧ GvJ t ρ2 id h k A' dk κ Vt Lt xs H2 (gv κ (κ.unv.take i) (κ.cho,[],[])) H') ⟨none,rfl,Fr.refl,kr2,R2,⟨_,hV2,.nil⟩,⟨_,hL2,.nil⟩,hx,px⟩ (fun i σ H' _ ⟨_,_,J⟩=>SqL.of J.hx) ?_ ?_⟩
    · rintro i x σ H3 ex ⟨v,rfl,J⟩
      obtain ⟨o,eo,uo⟩:=qi J.px ex
      have gl:=jvg κ (κ.unv.take i) (κ.cho,[],[])
      have li:(κ.unv.take i).length ≤ κ.unv.length:=by rw [List.length_take]; omega
      rw [j2e κ eo]
      generalize gv κ (κ.unv.take i) (κ.cho,[],[]) = a at J gl ⊢
      obtain ⟨q,rfl,hq⟩:=uo.ref
      have om:o ∈ κ.unv:=List.mem_of_getElem? eo
      have ho:=hok.u o om
      have ho8:=j73 ho n8
      obtain ⟨kvs,hk,pk⟩:=J.R.cs
      have ck:=jy0 (o:=o) pk
      refine ⟨_,rfl,k,dk,_,rfl,J.R.ob,jc7 A',_,rfl,ρ2,id,h,k,A',dk,_,n,q,o,rfl,J.R,hq,ho,hok.x,hok.h,_,rfl,?_⟩
      show (if κ.due o = true then _ else _)
      have Js:wz H3 H3:=wz.refl _
      cases hd : κ.due o with
      | false=>
        refine pq ?_
        have no : ¬ (κ.due o && !jp6 a.1 o) = true:=by simp [hd]
        refine ⟨_,rfl,k,dk,_,rfl,J.R.ob,jc7 A',_,rfl,ρ2,id,h,k,A',dk,_,n,q,o,rfl,J.R,hq,ho,hok.x,_,rfl,?_⟩
        show (if (!κ.past o) = true then _ else _)
        cases hp : κ.past o with
        | true=>
          refine pq ⟨_,rfl,?_⟩
          rw [gvS,if_neg no,if_neg (by simp [hp])]
          exact J
        | false=>
          refine jno ⟨_,rfl,q,o,rfl,hq,ho8,fun p np=>?_⟩
          have sp:=jg (o:=.tup [.int o.p,.int o.n]) np
          have Jp:=J.same sp
          refine ⟨_,rfl,k,_,dk,_,_,rfl,Jp.R.ob,T.jm,T.zv,(xi A').2.2.2.2.2.1,A' 6,jgm kvs [.inl o.p,.inl o.n],rfl,.inr ⟨kvs,[.inl o.p,.inl o.n],p,.inl (sp _ _ hk),rfl,ja,rfl⟩,_,rfl,?_⟩
          rw [ck]
          cases hc:jp6 a.1 o with
          | true=>
            refine pq ⟨_,rfl,?_⟩
            rw [gvS,if_neg no,if_neg (by rw [hc,Bool.not_true,Bool.and_false]; decide)]
            exact Jp
          | false=>
            obtain ⟨ls,hl,pl⟩:=Jp.hl
            have ll2:ls.length ≤ 1000:=by rw [Paired.length pl]; have:=gl.2.2; simp at this; omega
            refine jno ⟨_,rfl,.inl ⟨rfl,_,SqL.of hl⟩,_,rfl,Lt,ls,.ref q,rfl,rfl,hl,xt ll2,⟨_,rfl,?_⟩⟩
            rw [gvS,if_neg no,if_pos (by rw [hp,hc]; rfl)]
            have fL:Fr (isK id h) ρ2 (upd H3 p (.tup [.int o.p,.int o.n])) ρ2 (upd (upd H3 p (.tup [.int o.p,.int o.n])) Lt (.lst (ls ++ [.ref q]))):=Fr.put rL ⟨9,rfl⟩
            have uq:=(uo.fr (Fr.same (P:=fun _=>False) ((Js).trans sp))).fr fL
            exact Jp.putL hl rL rV LV fL (qy (Paired.pz pl fun _ _=>zj.fr fL) uq)
      | true=>
        refine jno ⟨_,rfl,q,o,rfl,hq,ho8,fun p0 np0=>?_⟩
        have sp0:=jg (o:=.tup [.int o.p,.int o.n]) np0
        have J0:=J.same sp0
        have J0s:=sp0
        have hk0:=sp0 _ _ hk
        have hq0:=sp0 _ _ hq
        refine ⟨_,rfl,k,_,dk,_,_,rfl,J0.R.ob,T.jm,T.zv,(xi A').2.2.2.2.2.1,A' 6,jgm kvs [.inl o.p,.inl o.n],rfl,.inr ⟨kvs,[.inl o.p,.inl o.n],p0,.inl hk0,rfl,ja,rfl⟩,_,rfl,?_⟩
        rw [ck]
        cases hc0:jp6 a.1 o with
        | true=>
          refine pq ?_
          have no : ¬ (κ.due o && !jp6 a.1 o) = true:=by rw [hc0,Bool.not_true,Bool.and_false]; decide
          generalize upd H3 p0 (.tup [.int o.p,.int o.n]) = H4 at sp0 J0 J0s hk0 hq0
          refine ⟨_,rfl,k,dk,_,rfl,J0.R.ob,jc7 A',_,rfl,ρ2,id,h,k,A',dk,_,n,q,o,rfl,J0.R,hq0,ho,hok.x,_,rfl,?_⟩
          show (if (!κ.past o) = true then _ else _)
          cases hp : κ.past o with
          | true=>
            refine pq ⟨_,rfl,?_⟩
            rw [gvS,if_neg no,if_neg (by simp [hp])]
            exact J0
          | false=>
            refine jno ⟨_,rfl,q,o,rfl,hq0,ho8,fun p np=>?_⟩
            have sp:=jg (o:=.tup [.int o.p,.int o.n]) np
            have Jp:=J0.same sp
            refine ⟨_,rfl,k,_,dk,_,_,rfl,Jp.R.ob,T.jm,T.zv,(xi A').2.2.2.2.2.1,A' 6,jgm kvs [.inl o.p,.inl o.n],rfl,.inr ⟨kvs,[.inl o.p,.inl o.n],p,.inl (sp _ _ hk0),rfl,ja,rfl⟩,_,rfl,?_⟩
            rw [ck]
            cases hc:jp6 a.1 o with
            | true=>
              refine pq ⟨_,rfl,?_⟩
              rw [gvS,if_neg no,if_neg (by rw [hc,Bool.not_true,Bool.and_false]; decide)]
              exact Jp
            | false=>
              obtain ⟨ls,hl,pl⟩:=Jp.hl
              have ll2:ls.length ≤ 1000:=by rw [Paired.length pl]; have:=gl.2.2; simp at this; omega
              refine jno ⟨_,rfl,.inl ⟨rfl,_,SqL.of hl⟩,_,rfl,Lt,ls,.ref q,rfl,rfl,hl,xt ll2,⟨_,rfl,?_⟩⟩
              rw [gvS,if_neg no,if_pos (by rw [hp,hc]; rfl)]
              have fL:Fr (isK id h) ρ2 (upd H4 p (.tup [.int o.p,.int o.n])) ρ2 (upd (upd H4 p (.tup [.int o.p,.int o.n])) Lt (.lst (ls ++ [.ref q]))):=Fr.put rL ⟨9,rfl⟩
              have uq:=(uo.fr (Fr.same (P:=fun _=>False) ((J0s).trans sp))).fr fL
              exact Jp.putL hl rL rV LV fL (qy (Paired.pz pl fun _ _=>zj.fr fL) uq)
        | false=>
          refine jno ?_
          generalize upd H3 p0 (.tup [.int o.p,.int o.n]) = H4 at sp0 J0 J0s hk0 hq0
          refine ⟨_,rfl,_,rfl,k,_,dk,_,_,rfl,J0.R.ob,T.jm,T.zv,(xi A').2.2.2.2.2.1,_,rfl,q,o,rfl,hq0,ho8,fun p np=>?_⟩
          have sp:=jg (o:=.tup [.int o.p,.int o.n]) np
          have Jp:=J0.same sp
          have lk:kvs.length ≤ 1000:=by rw [Paired.length pk]; have:=gl.1; show a.1.length ≤ 1000; simp at this; omega
          have nk:jgm kvs [.inl o.p,.inl o.n] = none:=by
            cases e:jgm kvs [.inl o.p,.inl o.n] with
            | none=>rfl
            | some v=>
              rw [e,hc0] at ck
              cases ck
          refine ⟨A' 6,_,rfl,jwx.t (k:=[.inl o.p,.inl o.n]) (sp _ _ hk0) ja (xt lk),?_⟩
          rw [jn3 _ nk]
          have r6:=(Jp.R.fl 6 (by decide) (by decide)).1
          have f6:Fr (isK id h) ρ2 (upd H4 p (.tup [.int o.p,.int o.n])) ρ2 (upd (upd H4 p (.tup [.int o.p,.int o.n])) (A' 6) (.dT (kvs ++ [([.inl o.p,.inl o.n],.ref q)]))):=Fr.put r6 ⟨6,rfl⟩
          have u4:=uo.fr (Fr.same (P:=fun _=>False) (J0s.trans sp))
          have pk4:=Paired.pz pk fun _ _ ⟨e,b⟩=>(⟨e,(b.fr (Fr.same (P:=fun _=>False) (J0s.trans sp))).fr f6⟩ : _ ∧ zj _ ρ2 _ _)
          have J5:=Jp.j7s rL rV (cho:=a.1 ++ [((o.p,o.n),o)]) (qy pk4 ⟨rfl,u4.fr f6⟩)
          have u5:=u4.fr f6
          generalize upd (upd H4 p (.tup [.int o.p,.int o.n])) (A' 6) (.dT (kvs ++ [([.inl o.p,.inl o.n],.ref q)])) = H5 at J5 u5
          obtain ⟨vs,hv,pv⟩:=J5.hv
          have lv:vs.length ≤ 1000:=by rw [Paired.length pv]; have:=gl.2.1; show a.2.1.length ≤ 1000; simp at this; omega
          refine ⟨_,rfl,.inl ⟨rfl,_,SqL.of hv⟩,_,rfl,Vt,vs,.ref q,rfl,rfl,hv,xt lv,⟨_,rfl,?_⟩⟩
          rw [gvS,if_pos (by simp [hd,hc0])]
          have fV:Fr (isK id h) ρ2 H5 ρ2 (upd H5 Vt (.lst (vs ++ [.ref q]))):=Fr.put rV ⟨8,rfl⟩
          exact J5.j7w rV LV fV (qy (Paired.pz pv fun _ _=>zj.fr fV) (u5.fr fV))
    · rintro σ H3 ⟨v,rfl,J⟩
      rw [lx,List.take_length] at J
      obtain ⟨vs,hv,pv⟩:=J.hv
      obtain ⟨ls,hl,pl⟩:=J.hl
      refine ⟨_,rfl,_,rfl,k,_,dk,_,rfl,J.R.ob,T.jm,T.yc,(by show 7 < 1000; decide),⟨_,rfl,?_⟩⟩
      rw [j4u]
      have fo:Fr (isK id h) ρ2 H3 ρ2 (upd H3 k (.ins t.j3 dk (kfA fun f=>if f = 5 then Lt else A' f))):=Fr.put J.R.r0 ⟨0,rfl⟩
      have fo':Fr (isK id h) ρ2 (upd H3 k (.ins t.j3 dk (kfA fun f=>if f = 5 then Lt else A' f))) (jaz ρ2 Lt (id,.kp h 5)) (upd H3 k (.ins t.j3 dk (kfA fun f=>if f = 5 then Lt else A' f))):=Fr.reR rL ⟨9,rfl⟩
      have ff:=fo.trans fo'
      have kL:Lt ≠ k:=ner rL J.R.r0 (by intro z; cases z)
      have Vk:Vt ≠ k:=ner rV J.R.r0 (by intro z; cases z)
      refine g (jaz ρ2 Lt (id,.kp h 5)) _ (fun f=>if f = 5 then Lt else A' f) Vt vs ⟨ja,?_,fun f a1 b1=>?_⟩ (f12.trans (J.fr.trans ff)) ?_ ?_ ?_ (Paired.pz pv fun _ _=>zj.fr ff)
      · rw [xl kL.symm]
        exact J.R.r0
      · by_cases z:f = 5
        · subst z
          exact ⟨zm,.lst ls,(by show upd H3 k _ Lt = _; rw [je kL]; exact hl),ls,rfl,Paired.pz pl fun _ _=>zj.fr ff⟩
        · obtain ⟨rf,u,hu,q⟩:=J.R.fl f a1 b1
          have nL:A' f ≠ Lt:=ner rf rL (by intro y; cases y; omega)
          show jaz ρ2 Lt (id,.kp h 5) (if f = 5 then Lt else A' f) = _ ∧ ∃ u,upd H3 k _ (if f = 5 then Lt else A' f) = _ ∧ _
          rw [if_neg z]
          refine ⟨by rw [xl nL]; exact rf,u,by rw [je (ner rf J.R.r0 (by intro y; cases y; omega))]; exact hu,?_⟩
          have q':=q.fr ff
          unfold jr8 at q' ⊢
          split at q' <;> first | exact q' | exact absurd rfl z
      · exact OkR.reR rL J.kr.put
      · rw [xl LV.symm]
        exact rV
      · rw [je Vk]
        exact hv
theorem jce {α β : Type} {F : α → β → Prop} : ∀ {xs:List α} {ys:List β} {j:Nat},Paired F xs ys → Paired F (xs.eraseIdx j) (ys.eraseIdx j)
 | _,_,_,.nil=>.nil
 | _,_,0,.cons _ t=>t
 | _,_,j + 1,.cons h t=>.cons h (jce t)
theorem jtb {α : Type} [DecidableEq α] (a : α) : ∀ l:List α,l.erase a = l.eraseIdx (l.idxOf a)
 | []=>rfl
 | b :: l=>by
  by_cases z:b = a
  ·subst z
   simp
  ·have e:(b :: l).idxOf a = l.idxOf a + 1:=by
    rw [List.idxOf_cons,show (b == a) = false by simpa using z]
    rfl
   rw [List.erase_cons_tail (by simpa using z),e,List.eraseIdx_cons_succ,jtb a l]
def vu (o:O) : List Int:=[o.p,o.n,o.g,o.m]
theorem jie {o u:O} (h:vu o = vu u) : o = u:=by
 cases o
 cases u
 unfold vu at h
 simp at h
 simp [h]
theorem jvr (o:O) : ∀ l:List O,(l.map vu).idxOf (vu o) = l.idxOf o
 | []=>rfl
 | b :: l=>by
  rw [List.map_cons]
  by_cases z:b = o
  ·subst z
   simp
  ·rw [List.idxOf_cons,List.idxOf_cons,show (b == o) = false by simpa using z,show (vu b == vu o) = false by simpa using fun y=>z (jie y),jvr o l]
theorem jpm {K:W.Frag} {H:Hp} {ρ : Rho} : ∀ {xs:List V} {os:List O},Paired (zj H ρ) xs os → Paired (jza K H) xs (os.map vu)
 | _,_,.nil=>.nil
 | _,_,.cons ⟨a,e,_,h⟩ t=>.cons ⟨a,e,SqT.of h⟩ (jpm t)
theorem jdh {κ : Kp} {o:O} (h : κ.first = some o) : o ∈ κ.wait:=List.mem_of_find?_eq_some h
theorem j19 {κ : Kp} (h : κ.first = none) : ∀ m,Kp.go m κ = κ
 | 0=>rfl
 | m + 1=>by
  unfold Kp.go
  rw [h]
theorem j3c {κ : Kp} {o:O} (h : κ.first = some o) : Kp.go κ.wait.length κ = Kp.go (κ.step o).wait.length (κ.step o):=by
 have e:(κ.step o).wait.length = κ.wait.length - 1:=List.length_erase_of_mem (jdh h)
 have p : 0 < κ.wait.length:=List.length_pos_of_mem (jdh h)
 obtain ⟨m,hm⟩ : ∃ m,κ.wait.length = m + 1:=⟨κ.wait.length - 1,by omega⟩
 rw [e,hm]
 show (match κ.first with | none=>κ | some o=>Kp.go m (κ.step o)) = _
 rw [h]
 rfl
theorem jox (T:Txt K mg t) : yf P w K mg base CX0 6 t.jd3 t.jen ["self"] (fun vs H Q _=>∃ ρ id h k A dk κ n,vs = [.ref k] ∧ xj t H ρ id h k A dk κ ∧ κ.Ok n ∧ n ≤ 8 ∧ κ.unv.length + κ.cho.length ≤ 1000 ∧ κ.done.length + κ.wait.length ≤ 1000 ∧ OkR ρ H ∧
  ∀ ρ' H' A' r xs,xj t H' ρ' id h k A' dk κ.j07.zq.1 → Fr (isK id h) ρ H ρ' H' → OkR ρ' H' → ρ' r = some (id,.kp h 8) → H' r = some (.lst xs) → Paired (zj H' ρ') xs κ.j07.zq.2 → Q (.ref r) H'):=by
 refine T.jir.ok jcv (fun vs H Q E h=>?_) (fun cdv A outer s H vs Q E hr h=>?_)
 ·obtain ⟨ρ,id,h,k,A,dk,κ,n,rfl,_⟩:=h
  rfl
 ·obtain ⟨ρ,id,h,k,A',dk,κ,n,rfl,R,hok,n8,ll,ld,kr,g⟩:=h
  refine ⟨_,(@jb _ _ _ _ _ (j8 (i:=1) jcv.nd rfl (Or.inl rfl) (gr (pv 0) T.jm T.kj (jci T) hr.dn T.jaa .nil jr))
   (@jb _ _ _ _ _ (j0k PassesOwn.never (jw j2n (pv 1) ji4 (qf _)) (@jb _ _ _ _ _ (qe (jj0 PySem.F.plainAttrs_list PySem.F.slot_list_remove PySem.F.type_list_remove (jwq hr.units) (j9 (pv 0) rfl) (jc (pv 1) jf)))
   (@jb _ _ _ _ _ (qe (j6 (pv 0) T.jm T.jgg (jp5 T) hr.dn T.jk3 .nil jr (jc (pv 1) jf)))
   (@jd _ _ _ (j8 (i:=1) jcv.nd rfl (Or.inl rfl) (gr (pv 0) T.jm T.kj (jci T) hr.dn T.jaa .nil jr))))))
   (@jd _ _ _ (j4 (gr (pv 0) T.jm T.gb (jby T) hr.dn T.kh .nil jr))))),?_⟩
  refine ⟨_,rfl,k,dk,_,rfl,R.ob,jc7 A',ρ,id,h,k,A',dk,κ,n,rfl,R,hok,fun v0 h0=>?_⟩
  refine jz3 (fun σ H'=>∃ κ' v,σ = [some (.ref k),some v] ∧ xj t H' ρ id h k A' dk κ' ∧ κ'.Ok n ∧ Fr (isK id h) ρ H ρ H' ∧ OkR ρ H' ∧ Kp.go κ'.wait.length κ' = κ.j07 ∧ κ'.unv = κ.unv ∧ κ'.cho = κ.cho ∧ κ'.done.length + κ'.wait.length ≤ 1000 ∧ ((κ'.first = none ∧ v = .non) ∨ ∃ o,κ'.first = some o ∧ zj H' ρ v o)) (fun _ H'=>match H' (A' 7) with | some (.lst xs)=>xs.length | _=>0) ⟨κ,v0,rfl,R,hok,Fr.refl,kr,rfl,rfl,rfl,ld,h0⟩ ?_ ?_
  ·rintro σ H1 ⟨κ',v,rfl,R1,hok1,f1,kr1,eg,eu,ec,ld1,hv⟩
   refine ⟨_,rfl,rfl,_,rfl,?_⟩
   rcases hv with ⟨e,rfl⟩ | ⟨o,e,uo⟩
   ·refine pq ?_
    rw [j19 e] at eg
    subst eg
    refine ⟨_,rfl,k,dk,_,rfl,R1.ob,jc7 A',ρ,id,h,k,A',dk,_,n,rfl,R1,hok1,n8,by rw [eu,ec]; exact ll,kr1,fun ρ' H' A'' r xs q1 q2 q3 q4 q5 q6=>g ρ' H' A'' r xs q1 (f1.trans q2) q3 q4 q5 q6⟩
   ·obtain ⟨q,rfl,nq,hq⟩:=uo
    refine jno ?_
    obtain ⟨xs,hx,px⟩:=R1.wt
    have om:=jdh e
    refine ⟨_,rfl,k,_,dk,_,_,rfl,R1.ob,T.jm,T.za,(xi A').2.2.2.2.2.2,.inl ⟨rfl,_,SqL.of hx⟩,_,rfl,A' 7,xs,.ref q,vu o,κ'.wait.map vu,rfl,rfl,hx,⟨q,rfl,SqT.of hq⟩,jpm px,List.mem_map_of_mem om,?_⟩
    rw [jvr]
    obtain ⟨r7,_⟩:=R1.fl 7 (by decide) (by decide)
    obtain ⟨R2,f2⟩:=R1.put (κ':={ κ' with wait:=κ'.wait.erase o }) (f0:=7) (by decide) (by decide) (u0:=.lst (xs.eraseIdx (κ'.wait.idxOf o))) ⟨_,rfl,by show Paired _ _ (κ'.wait.erase o); rw [jtb]; exact jce (Paired.pz px fun _ _=>zj.fr (Fr.put (P:=isK id h) r7 ⟨7,rfl⟩))⟩ (fun f u hf q=>by unfold jr8 at q ⊢; split at q <;> first | exact q | exact absurd rfl hf)
    have kr2:=kr1.put (a:=A' 7) (o:=.lst (xs.eraseIdx (κ'.wait.idxOf o)))
    have uq2:zj (upd H1 (A' 7) (.lst (xs.eraseIdx (κ'.wait.idxOf o)))) ρ (.ref q) o:=zj.fr f2 ⟨q,rfl,nq,hq⟩
    have ho:=hok1.w o om
    generalize upd H1 (A' 7) (.lst (xs.eraseIdx (κ'.wait.idxOf o))) = H2 at R2 f2 kr2 uq2
    refine ⟨_,rfl,k,dk,_,rfl,R2.ob,jc7 A',_,rfl,ρ,id,h,k,A',dk,_,n,q,o,rfl,R2,uq2,ho,hok1.x,hok1.h,by show κ'.done.length ≤ 1000; omega,kr2,fun H3 R3 f3 kr3=>?_⟩
    have ok3:(κ'.step o).Ok n:=hok1.step o
    refine ⟨_,rfl,k,dk,_,rfl,R3.ob,jc7 A',ρ,id,h,k,A',dk,κ'.step o,n,rfl,R3,ok3,fun v1 hv1=>⟨⟨κ'.step o,v1,rfl,R3,ok3,(f1.trans f2).trans f3,kr3,by rw [← j3c e]; exact eg,eu,ec,?_,hv1⟩,?_⟩⟩
    ·have l1:(κ'.step o).done.length = κ'.done.length + 1:=by show (κ'.done ++ [o]).length = _; rw [List.length_append]; rfl
     have l2:(κ'.step o).wait.length = κ'.wait.length - 1:=List.length_erase_of_mem om
     have:=List.length_pos_of_mem om
     omega
    ·obtain ⟨ys,hy,py⟩:=R3.wt
     have l2:(κ'.step o).wait.length = κ'.wait.length - 1:=List.length_erase_of_mem om
     have:=List.length_pos_of_mem om
     have e1:=Paired.length px
     have e2:ys.length = (κ'.step o).wait.length:=Paired.length py
     rw [hy,hx]
     show ys.length < xs.length
     omega
  ·intro σ H Q Q' hQ h
   obtain ⟨v,e1,e2,c,e3,q⟩:=h
   exact ⟨v,e1,e2,c,e3,hQ _ _ q⟩
theorem jta {o:O} : ∀ {kvs:List (List Key × V)} {os:List O},kvs.map (·.1) = os.map jn4 → (jgm kvs (jn4 o)).isSome = decide (o ∈ os)
 | [],[],_=>rfl
 | [],_ :: _,e=>by simp at e
 | _ :: _,[],e=>by simp at e
 | kv :: kvs,u :: os,e=>by
  rw [List.map_cons,List.map_cons] at e
  obtain ⟨e1,e2⟩:=List.cons.inj e
  have ih:=jta (o:=o) e2
  by_cases z:u = o
  ·subst z
   rw [jb6 e1]
   simp
  ·rw [jb4 (fun y=>z (j0j (e1.symm.trans y))),ih]
   simp [Ne.symm z]
theorem xj.jnx {t:Ad} {H:Hp} {ρ : Rho} {id:Nat} {h:Int} {k dk:Addr} {A:Nat → Addr} {κ : Kp} {r:Addr} {ro:Role} {o:HO} (R:xj t H ρ id h k A dk κ) (kr:OkR ρ H) (nr:H r = none) : xj t (upd H r o) (jaz ρ r ro) id h k A dk κ:=
 R.fr (P:=fun _=>False) (fun _ z=>z) (Fr.jnx nr)
def jvs (t:Ad) (κ':Kp → O → Kp × List O) : Sp:=fun vs H Q _=>∃ ρ id h k A dk κ n q o,vs = [.ref k,.ref q] ∧ xj t H ρ id h k A dk κ ∧ zj H ρ (.ref q) o ∧ κ.Ok n ∧ n ≤ 8 ∧ xk (n:Nat) o = true ∧ κ.kl.length ≤ 900 ∧ κ.unv.length + κ.cho.length ≤ 900 ∧ κ.done.length + κ.wait.length ≤ 900 ∧ OkR ρ H ∧
  ∀ ρ' H' A' r xs,xj t H' ρ' id h k A' dk (κ' κ o).1 → Fr (isK id h) ρ H ρ' H' → OkR ρ' H' → ρ' r = some (id,.kp h 8) → H' r = some (.lst xs) → Paired (zj H' ρ') xs (κ' κ o).2 → Q (.ref r) H'
theorem jqg (T:Txt K mg t) : yf P w K mg base CX0 6 t.je9 t.jfg ["self","order"] (jvs t Kp.j1j):=by
 refine T.jk7.ok jqh (fun vs H Q E h=>?_) (fun cdv A outer s H vs Q E hr h=>?_)
 ·obtain ⟨ρ,id,h,k,A,dk,κ,n,q,o,rfl,_⟩:=h
  rfl
 ·obtain ⟨ρ,id,h,k,A',dk,κ,n,q,o,rfl,R,uq,hok,n8,ho,lh,lu,ld,kr,g⟩:=h
  refine ⟨_,(@jb _ _ _ _ _ (zo (jve (j4b (jol hr) (pv 1) (j9 (pv 0) rfl))) (@jd _ _ _ (j4 (@zk _ _ _ _ jf))) qc)
   (@jb _ _ _ _ _ (jyf (jol hr) (j9 (pv 0) rfl) (pv 1) jkd rfl)
   (@jb _ _ _ _ _ (qe (jj0 PySem.F.plainAttrs_list PySem.F.slot_list_append PySem.F.type_list_append vq (j9 (pv 0) rfl) (jc (pv 1) jf)))
   (@jd _ _ _ (j4 (gr (pv 0) T.jm T.gb (jby T) hr.dn T.kh .nil jr)))))),?_⟩
  obtain ⟨_,eq,nq,hq⟩:=uq
  cases eq
  obtain ⟨kvs,hk,ek⟩:=R.hd
  have hv:=jta (o:=o) ek
  refine ⟨_,rfl,_,rfl,k,_,dk,_,_,rfl,R.ob,T.jm,T.jae,(xi A').2.2.2.1,A' 4,jgm kvs (jn4 o),rfl,.inr ⟨kvs,jn4 o,q,.inl hk,rfl,hq,rfl⟩,_,rfl,?_⟩
  rw [hv]
  unfold Kp.j1j at g
  refine jgn (fun z=>?_) (fun z=>?_)
  ·have z':o ∈ κ.kl:=of_decide_eq_true z
   rw [if_pos z'] at g
   refine ⟨zs0,fun r nr=>?_⟩
   have f1:Fr (isK id h) ρ H (jaz ρ r (id,.kp h 8)) (upd H r (.lst [])):=Fr.jnx nr
   refine g _ _ A' r [] (xj.jnx R kr nr) f1 kr.jnx zm ja .nil
  ·have z' : ¬ o ∈ κ.kl:=fun y=>z (decide_eq_true y)
   rw [if_neg z'] at g
   have nk:jgm kvs (jn4 o) = none:=by
    cases e:jgm kvs (jn4 o) with
    | none=>rfl
    | some v=>
     rw [e,decide_eq_false z'] at hv
     cases hv
   have lk:kvs.length ≤ 1000:=by
    have:=congrArg List.length ek
    rw [List.length_map,List.length_map] at this
    omega
   refine ⟨_,rfl,k,_,dk,_,_,rfl,R.ob,T.jm,T.jae,(xi A').2.2.2.1,_,rfl,A' 4,_,rfl,jwx.t (k:=jn4 o) hk hq (xt lk),?_⟩
   rw [jn3 _ nk]
   obtain ⟨R1,f1⟩:=R.put (κ':={ κ with kl:=κ.kl ++ [o] }) (f0:=4) (by decide) (by decide) (u0:=.dT (kvs ++ [(jn4 o,.bl true)])) ⟨_,rfl,by rw [List.map_append,ek,List.map_append]; rfl⟩ (fun f u hf q=>by unfold jr8 at q ⊢; split at q <;> first | exact q | exact absurd rfl hf)
   have kr1:=kr.put (a:=A' 4) (o:=.dT (kvs ++ [(jn4 o,.bl true)]))
   have uq1:zj _ ρ (.ref q) o:=zj.fr f1 ⟨q,rfl,nq,hq⟩
   generalize upd H (A' 4) (.dT (kvs ++ [(jn4 o,.bl true)])) = H1 at R1 f1 kr1 uq1
   obtain ⟨xs,hx,px⟩:=R1.un
   have lx:xs.length ≤ 1000:=by rw [Paired.length px]; show κ.unv.length ≤ 1000; omega
   refine ⟨_,rfl,k,_,dk,_,_,rfl,R1.ob,T.jm,T.yc,(xi A').2.2.2.2.1,.inl ⟨rfl,_,SqL.of hx⟩,_,rfl,A' 5,xs,.ref q,rfl,rfl,hx,xt lx,?_⟩
   obtain ⟨r5,_⟩:=R1.fl 5 (by decide) (by decide)
   obtain ⟨R2,f2⟩:=R1.put (κ':={ κ with kl:=κ.kl ++ [o],unv:=κ.unv ++ [o] }) (f0:=5) (by decide) (by decide) (u0:=.lst (xs ++ [.ref q])) ⟨_,rfl,qy (Paired.pz px fun _ _=>zj.fr (Fr.put (P:=isK id h) r5 ⟨5,rfl⟩)) (uq1.fr (Fr.put (P:=isK id h) r5 ⟨5,rfl⟩))⟩ (fun f u hf q=>by unfold jr8 at q ⊢; split at q <;> first | exact q | exact absurd rfl hf)
   have kr2:=kr1.put (a:=A' 5) (o:=.lst (xs ++ [.ref q]))
   dsimp only
   generalize upd H1 (A' 5) (.lst (xs ++ [.ref q])) = H2 at R2 f2 kr2
   have ok2:Kp.Ok n { κ with kl:=κ.kl ++ [o],unv:=κ.unv ++ [o] }:=⟨hok.h,hok.x,fun u hu=>by
    rcases List.mem_append.mp hu with hu | hu
    ·exact hok.u u hu
    ·rw [List.mem_singleton.mp hu]; exact ho,hok.w,hok.nd⟩
   exact ⟨_,rfl,k,dk,_,rfl,R2.ob,jc7 A',ρ,id,h,k,A',dk,_,n,rfl,R2,ok2,n8,by show (κ.unv ++ [o]).length + κ.cho.length ≤ 1000; rw [List.length_append]; show κ.unv.length + 1 + κ.cho.length ≤ 1000; omega,kr2,fun ρ' H' A'' r ys q1 q2 q3 q4 q5 q6=>g ρ' H' A'' r ys q1 ((f1.trans f2).trans q2) q3 q4 q5 q6⟩
theorem jig (T:Txt K mg t) : yf P w K mg base CX0 7 t.ky t.kn ["self","order"] (jvs t Kp.jp1):=by
 refine T.jdk.ok jii (fun vs H Q E h=>?_) (fun cdv A outer s H vs Q E hr h=>?_)
 ·obtain ⟨ρ,id,h,k,A,dk,κ,n,q,o,rfl,_⟩:=h
  rfl
 ·obtain ⟨ρ,id,h,k,A',dk,κ,n,q,o,rfl,R,uq,hok,n8,ho,lh,lu,ld,kr,g⟩:=h
  refine ⟨_,(@jb _ _ _ _ _ (zo (PW.pt (jko (xb (j6 (pv 0) T.jm T.vz (jcs T) hr.dn T.jau .nil jr (jc (pv 1) jf))) (je7 (jw (j5e hr.units) (pv 1) (j9 (pv 0) rfl) (by with_unfolding_all rfl))))) (@jd _ _ _ (j4 (@zk _ _ _ _ jf))) qc)
   (@jb _ _ _ _ _ (qe (jj0 PySem.F.plainAttrs_list PySem.F.slot_list_append PySem.F.type_list_append vq (j9 (pv 0) rfl) (jc (pv 1) jf)))
   (@jd _ _ _ (j4 (gr (pv 0) T.jm T.jhx (jox T) hr.dn T.ji0 .nil jr))))),?_⟩
  obtain ⟨_,eq,nq,hq⟩:=uq
  cases eq
  obtain ⟨xs,hx,px⟩:=R.wt
  unfold Kp.jp1 at g
  have none_:(κ.past o || decide (o ∈ κ.wait)) = true → ∀ r H1,wz H H1 → H1 r = none → Q (.ref r) (upd H1 r (.lst [])):=fun z r H1 s1 nr=>by
   rw [if_pos z] at g
   have f0:Fr (isK id h) ρ H ρ H1:=Fr.same s1
   have f1:Fr (isK id h) ρ H1 (jaz ρ r (id,.kp h 8)) (upd H1 r (.lst [])):=Fr.jnx nr
   exact g _ _ A' r [] (xj.jnx (R.fr (P:=fun _=>False) (fun _ z=>z) (Fr.same s1)) (kr.same s1) nr) (f0.trans f1) (kr.same s1).jnx zm ja .nil
  refine ⟨_,rfl,k,dk,_,rfl,R.ob,jc7 A',_,rfl,ρ,id,h,k,A',dk,κ,n,q,o,rfl,R,hq,ho,hok.x,_,rfl,?_⟩
  cases hp : κ.past o with
  | true=>
   refine jno (jno ⟨zs0,fun r nr=>none_ (by rw [hp]; rfl) r H (wz.refl _) nr⟩)
  | false=>
   refine pq ⟨_,rfl,_,rfl,k,_,dk,_,_,rfl,R.ob,T.jm,T.za,(xi A').2.2.2.2.2.2,A' 7,xs,vu o,κ.wait.map vu,rfl,SqL.of hx,⟨q,rfl,SqT.of hq⟩,jpm px,_,rfl,jgn (fun z=>?_) (fun z=>?_)⟩
   ·have z':o ∈ κ.wait:=by
     obtain ⟨u,hu,e⟩:=List.mem_map.mp (of_decide_eq_true z)
     rw [← jie e]
     exact hu
    exact ⟨zs0,fun r nr=>none_ (by rw [decide_eq_true z',Bool.or_true]) r H (wz.refl _) nr⟩
   ·have z' : ¬ o ∈ κ.wait:=fun y=>z (decide_eq_true (List.mem_map_of_mem y))
    rw [if_neg (by rw [hp,decide_eq_false z']; decide)] at g
    have lx:xs.length ≤ 1000:=by rw [Paired.length px]; omega
    refine ⟨_,rfl,k,_,dk,_,_,rfl,R.ob,T.jm,T.za,(xi A').2.2.2.2.2.2,.inl ⟨rfl,_,SqL.of hx⟩,_,rfl,A' 7,xs,.ref q,rfl,rfl,hx,xt lx,?_⟩
    obtain ⟨r7,_⟩:=R.fl 7 (by decide) (by decide)
    obtain ⟨R2,f2⟩:=R.put (κ':={ κ with wait:=κ.wait ++ [o] }) (f0:=7) (by decide) (by decide) (u0:=.lst (xs ++ [.ref q])) ⟨_,rfl,qy (Paired.pz px fun _ _=>zj.fr (Fr.put (P:=isK id h) r7 ⟨7,rfl⟩)) (zj.fr (Fr.put (P:=isK id h) r7 ⟨7,rfl⟩) ⟨q,rfl,nq,hq⟩)⟩ (fun f u hf q=>by unfold jr8 at q ⊢; split at q <;> first | exact q | exact absurd rfl hf)
    have kr2:=kr.put (a:=A' 7) (o:=.lst (xs ++ [.ref q]))
    dsimp only
    generalize upd H (A' 7) (.lst (xs ++ [.ref q])) = H2 at R2 f2 kr2
    have ok2:Kp.Ok n { κ with wait:=κ.wait ++ [o] }:=⟨hok.h,hok.x,hok.u,fun u hu=>by
     rcases List.mem_append.mp hu with hu | hu
     ·exact hok.w u hu
     ·rw [List.mem_singleton.mp hu]; exact ho,List.nodup_append.mpr ⟨hok.nd,by simp,fun x hx y hy e=>by rw [List.mem_singleton.mp hy] at e; subst e; exact z' hx⟩⟩
    exact ⟨_,rfl,k,dk,_,rfl,R2.ob,jc7 A',ρ,id,h,k,A',dk,_,n,rfl,R2,ok2,n8,by show κ.unv.length + κ.cho.length ≤ 1000; omega,by show κ.done.length + (κ.wait ++ [o]).length ≤ 1000; rw [List.length_append]; show κ.done.length + (κ.wait.length + 1) ≤ 1000; omega,kr2,fun ρ' H' A'' r ys q1 q2 q3 q4 q5 q6=>g ρ' H' A'' r ys q1 (f2.trans q2) q3 q4 q5 q6⟩
def wof (n tot:Int) (ly ch kd bd ak wy:Addr) : List (Str × V):=pf "on_way" (.ref wy) (pf "asked" (.ref ak) (pf "board" (.ref bd) (pf "keepers" (.ref kd) (pf "cheating" (.ref ch) (pf "lying" (.ref ly) (pf "total" (.int tot) (pf "purses" (.int n) [])))))))
theorem jl6 {n tot:Int} {ly ch kd bd ak wy:Addr} : (wof n tot ly ch kd bd ak wy).lookup ("purses" : Str) = some (.int n):=by
 unfold wof
 repeat (first | rw [jl,if_pos rfl] | rw [jl,if_neg (by decide +kernel)])
theorem jy3 {n tot:Int} {ly ch kd bd ak wy:Addr} : (wof n tot ly ch kd bd ak wy).lookup ("lying" : Str) = some (.ref ly):=by
 unfold wof
 repeat (first | rw [jl,if_pos rfl] | rw [jl,if_neg (by decide +kernel)])
theorem jhi {n tot:Int} {ly ch kd bd ak wy:Addr} : (wof n tot ly ch kd bd ak wy).lookup ("cheating" : Str) = some (.ref ch):=by
 unfold wof
 repeat (first | rw [jl,if_pos rfl] | rw [jl,if_neg (by decide +kernel)])
theorem jcx {n tot:Int} {ly ch kd bd ak wy:Addr} : (wof n tot ly ch kd bd ak wy).lookup ("keepers" : Str) = some (.ref kd):=by
 unfold wof
 repeat (first | rw [jl,if_pos rfl] | rw [jl,if_neg (by decide +kernel)])
theorem jkt {n tot:Int} {ly ch kd bd ak wy:Addr} : (wof n tot ly ch kd bd ak wy).lookup ("board" : Str) = some (.ref bd):=by
 unfold wof
 repeat (first | rw [jl,if_pos rfl] | rw [jl,if_neg (by decide +kernel)])
theorem jtx {n tot:Int} {ly ch kd bd ak wy:Addr} : (wof n tot ly ch kd bd ak wy).lookup ("asked" : Str) = some (.ref ak):=by
 unfold wof
 repeat (first | rw [jl,if_pos rfl] | rw [jl,if_neg (by decide +kernel)])
theorem jak {n tot:Int} {ly ch kd bd ak wy:Addr} : (wof n tot ly ch kd bd ak wy).lookup ("on_way" : Str) = some (.ref wy):=by
 unfold wof
 repeat (first | rw [jl,if_pos rfl] | rw [jl,if_neg (by decide +kernel)])
theorem qv {n tot:Int} {ly ch kd bd ak wy:Addr} {m:Str} (h : ¬ m = "on_way" ∧ ¬ m = "asked" ∧ ¬ m = "board" ∧ ¬ m = "keepers" ∧ ¬ m = "cheating" ∧ ¬ m = "lying" ∧ ¬ m = "total" ∧ ¬ m = "purses" := by decide +kernel) : (wof n tot ly ch kd bd ak wy).lookup m = none:=by
 obtain ⟨h1,h2,h3,h4,h5,h6,h7,h8⟩:=h
 unfold wof
 rw [jl,if_neg h1,jl,if_neg h2,jl,if_neg h3,jl,if_neg h4,jl,if_neg h5,jl,if_neg h6,jl,if_neg h7,jl,if_neg h8]
 rfl
structure Wd where
 n:Nat
 ja6:List Int
 ks:List (Int × Kp)
 bd:ym
 en:Int
 asked:List (List O)
 way:List (Bool × Int × O)
def jnt (ks:List (Int × Kp)) (h:Int) (κ : Kp) : List (Int × Kp):=ks.map fun c=>if c.1 = h then (h,κ) else c
def Wd.post (w:Wd) (b:Bool) (o:O) : Wd:={ w with way:=w.way ++ w.ks.map fun c=>(b,c.1,o) }
def jx:ym → List Int → List Int
 | [],_=>[]
 | p :: ps,k=>if p.1 = k then p.2 else jx ps k
def jd6:ym → List Int → Int → ym
 | [],k,h=>[(k,[h])]
 | p :: ps,k,h=>if p.1 = k then (p.1,p.2 ++ [h]) :: ps else p :: jd6 ps k h
def Wd.put (w:Wd) (h:Int) (o:O) : Wd × Bool:=if h ∈ jx w.bd (vu o) then (w,false) else ({ w with bd:=jd6 w.bd (vu o) h },decide (((jx w.bd (vu o)).length:Int) + 1 = w.en))
def Wd.jew (h:Int) (w:Wd) (o:O) : Wd:=if (w.put h o).2 = true then (w.put h o).1.post false o else (w.put h o).1
def Wd.zq (w:Wd) (h:Int) (os:List O) : Wd:=os.foldl (Wd.jew h) w
def Wd.keep (w:Wd) (h:Int) : Option Kp:=(w.ks.find? fun c=>decide (c.1 = h)).map (·.2)
def Kp.take (κ : Kp) (b:Bool) (o:O) : Kp × List O:=if b = true then κ.j1j o else κ.jp1 o
def Wd.j3n (w:Wd) (i:Nat) (l:Bool × Int × O) (κ : Kp) : Wd:=Wd.zq { w with way:=w.way.eraseIdx i,ks:=jnt w.ks l.2.1 (κ.take l.1 l.2.2).1 } l.2.1 (κ.take l.1 l.2.2).2
theorem jep (k:List Int) : ∀ is:ym,qj (thP is) (jnw k) = jx is k
 | []=>rfl
 | p :: ps=>by
  show (if jnw p.1 = jnw k then p.2 else qj (thP ps) (jnw k)) = if p.1 = k then p.2 else jx ps k
  by_cases z:p.1 = k
  ·rw [if_pos z,if_pos (by rw [z])]
  ·rw [if_neg z,if_neg (fun y=>z (jrx y)),jep k ps]
theorem jvx (k:List Int) (h:Int) : ∀ is:ym,jre (thP is) (jnw k) h = thP (jd6 is k h)
 | []=>rfl
 | p :: ps=>by
  show (if jnw p.1 = jnw k then (jnw p.1,p.2 ++ [h]) :: thP ps else (jnw p.1,p.2) :: jre (thP ps) (jnw k) h) = thP (if p.1 = k then (p.1,p.2 ++ [h]) :: ps else p :: jd6 ps k h)
  by_cases z:p.1 = k
  ·rw [if_pos z,if_pos (by rw [z])]
   rfl
  ·rw [if_neg z,if_neg (fun y=>z (jrx y)),jvx k h ps]
   rfl
def jv5 (b:Bool) : V:=.str (if b = true then "order" else "paper")
def jmu (H:Hp) (ρ : Rho) (x:V) (l:Bool × Int × O) : Prop:=∃ a q,x = .ref a ∧ ρ a = none ∧ H a = some (.tup [jv5 l.1,.int l.2.1,.ref q]) ∧ zj H ρ (.ref q) l.2.2
theorem jmu.fr {P:Role → Prop} {ρ ρ':Rho} {H H':Hp} {x:V} {l:Bool × Int × O} (f:Fr P ρ H ρ' H') (h:jmu H ρ x l) : jmu H' ρ' x l:=by
 obtain ⟨a,q,e,n,h1,h2⟩:=h
 obtain ⟨h1',n'⟩:=f a _ h1 fun r hr=>by rw [n] at hr; cases hr
 exact ⟨a,q,e,n'.trans n,h1',h2.fr f⟩
structure WA where
 x:Addr
 dx:Addr
 tot:Int
 ly:Addr
 ch:Addr
 kd:Addr
 bd:Addr
 ak:Addr
 wy:Addr
 db:Addr
 S:Addr
abbrev WA.fs (W:WA) (n:Nat) : List (Str × V):=wof n W.tot W.ly W.ch W.kd W.bd W.ak W.wy
def yr (t:Ad) (H:Hp) (ρ : Rho) (id:Nat) (kvs:List (Key × V)) (ks:List (Int × Kp)) : Prop:=Paired (fun kv (c:Int × Kp)=>kv.1 = .inl c.1 ∧ ∃ k A dk,kv.2 = .ref k ∧ xj t H ρ id c.1 k A dk c.2) kvs ks
def jrh (H:Hp) (ρ : Rho) (id:Nat) (rs:List Addr) (asked:List (List O)) : Prop:=rs.length = asked.length ∧ ∀ (i:Nat) (r:Addr) (os:List O),rs[i]? = some r → asked[i]? = some os → ρ r = some (id,.row i) ∧ ∃ xs,H r = some (.lst xs) ∧ Paired (zj H ρ) xs os
def jzn (ρ : Rho) (id:Nat) (kvs:List (List Key × V)) : Prop:=∀ kv ∈ kvs,∃ c,kv.2 = .ref c ∧ ρ c = some (id,.sg)
structure qo (t:Ad) (H:Hp) (ρ : Rho) (id:Nat) (W:WA) (w:Wd) : Prop where
 ob:H W.x = some (.ins t.jy W.dx (W.fs w.n)) ∧ ρ W.x = some (id,.x)
 ch:H W.ch = some (.lst (w.ja6.map V.int)) ∧ ρ W.ch = none
 kd : ρ W.kd = some (id,.kd) ∧ ∃ kvs,H W.kd = some (.dK kvs) ∧ yr t H ρ id kvs w.ks
 bd : ρ W.bd = some (id,.bd) ∧ ρ W.S = some (id,.sd) ∧ ∃ kvs,yz t H W.bd W.db W.S w.en kvs (thP w.bd) ∧ jzn ρ id kvs
 ak : ρ W.ak = some (id,.ak) ∧ ∃ rs,H W.ak = some (.lst (rs.map V.ref)) ∧ jrh H ρ id rs w.asked
 wy : ρ W.wy = some (id,.wy) ∧ ∃ xs,H W.wy = some (.lst xs) ∧ Paired (jmu H ρ) xs w.way
section
variable {t:Ad} {H H':Hp} {ρ ρ':Rho} {id:Nat} {W:WA} {w:Wd} {P:Role → Prop}
theorem jej {a:Addr} {u:HO} {r:Role} (f:Fr P ρ H ρ' H') (e:H a = some u) (er : ρ a = some r) (n : ¬ P r) : H' a = some u ∧ ρ' a = some r:=by
 obtain ⟨e1,r1⟩:=f a u e fun r' hr=>by rw [er] at hr; cases hr; exact n
 exact ⟨e1,r1.trans er⟩
theorem jp7 {a:Addr} {u:HO} (f:Fr P ρ H ρ' H') (e:H a = some u) (er : ρ a = none) : H' a = some u ∧ ρ' a = none:=by
 obtain ⟨e1,r1⟩:=f a u e fun r' hr=>by rw [er] at hr; cases hr
 exact ⟨e1,r1.trans er⟩
theorem yr.fr {kvs:List (Key × V)} {ks:List (Int × Kp)} (f:Fr P ρ H ρ' H') (hP : ∀ h i,¬ P (id,.kp h i)) (k:yr t H ρ id kvs ks) : yr t H' ρ' id kvs ks:=Paired.pz k fun _ c ⟨e,k,A,dk,ek,q⟩=>⟨e,k,A,dk,ek,q.fr (hP c.1) f⟩
theorem jrh.fr {rs:List Addr} {asked:List (List O)} (f:Fr P ρ H ρ' H') (hP : ∀ i,¬ P (id,.row i)) (k:jrh H ρ id rs asked) : jrh H' ρ' id rs asked:=⟨k.1,fun i r os e1 e2=>by
 obtain ⟨rr,xs,h,p⟩:=k.2 i r os e1 e2
 obtain ⟨h',r'⟩:=jej f h rr (hP i)
 exact ⟨r',xs,h',Paired.pz p fun _ _=>zj.fr f⟩⟩
theorem yz.fr {p dx S:Addr} {en:Int} {kvs:List (List Key × V)} {ps:jde} (f:Fr P ρ H ρ' H') (rp : ρ p = some (id,.bd)) (rS : ρ S = some (id,.sd)) (sg:jzn ρ id kvs) (n1 : ¬ P (id,.bd)) (n2 : ¬ P (id,.sd)) (n3 : ¬ P (id,.sg)) (B:yz t H p dx S en kvs ps) : yz t H' p dx S en kvs ps ∧ ρ' p = some (id,.bd) ∧ ρ' S = some (id,.sd) ∧ jzn ρ' id kvs:=by
 obtain ⟨e1,r1⟩:=jej f B.ob rp n1
 obtain ⟨e2,r2⟩:=jej f B.sg rS n2
 have hs : ∀ {kv:List Key × V} {q:List Key × List Int},kv ∈ kvs → jwu H kv q → jwu H' kv q ∧ ∃ c,kv.2 = .ref c ∧ ρ' c = some (id,.sg):=fun {kv q} m ⟨a,c,ec,hc⟩=>by
  obtain ⟨c',ec',rc⟩:=sg kv m
  rw [ec] at ec'
  cases ec'
  obtain ⟨h1,h2⟩:=jej f hc rc n3
  exact ⟨⟨a,c,ec,h1⟩,c,ec,h2⟩
 have all : ∀ {xs:List (List Key × V)} {ys:jde},(∀ x ∈ xs,x ∈ kvs) → Paired (jwu H) xs ys → Paired (jwu H') xs ys ∧ jzn ρ' id xs:=fun {xs ys} m q=>by
  induction q with
  | nil=>exact ⟨.nil,fun _ z=>by cases z⟩
  | cons h _ ih=>
   obtain ⟨i1,i2⟩:=ih fun x hx=>m x (List.mem_cons_of_mem _ hx)
   obtain ⟨j1,j2⟩:=hs (m _ List.mem_cons_self) h
   refine ⟨.cons j1 i1,fun x hx=>?_⟩
   rcases List.mem_cons.mp hx with rfl | hx
   ·exact j2
   ·exact i2 x hx
 obtain ⟨a1,a2⟩:=all (fun _ h=>h) B.hs
 exact ⟨⟨e1,e2,a1,B.un⟩,r1,r2,a2⟩
theorem qo.fr (hP : ∀ p,¬ P (id,p)) (f:Fr P ρ H ρ' H') (w1:qo t H ρ id W w) : qo t H' ρ' id W w:=by
 obtain ⟨rk,kvs,hk,ks⟩:=w1.kd
 obtain ⟨rb,rS,bvs,B,sg⟩:=w1.bd
 obtain ⟨ra,rs,ha,rows⟩:=w1.ak
 obtain ⟨rw_,xs,hw,pw⟩:=w1.wy
 obtain ⟨hk',rk'⟩:=jej f hk rk (hP _)
 obtain ⟨B',rb',rS',sg'⟩:=B.fr f rb rS sg (hP _) (hP _) (hP _)
 obtain ⟨ha',ra'⟩:=jej f ha ra (hP _)
 obtain ⟨hw',rw'⟩:=jej f hw rw_ (hP _)
 exact ⟨jej f w1.ob.1 w1.ob.2 (hP _),jp7 f w1.ch.1 w1.ch.2,⟨rk',kvs,hk',ks.fr f fun _ _=>hP _⟩,⟨rb',rS',bvs,B',sg'⟩,⟨ra',rs,ha',rows.fr f fun _=>hP _⟩,⟨rw',xs,hw',Paired.pz pw fun _ _=>jmu.fr f⟩⟩
theorem qo.but (f:Fr P ρ H ρ' H') (w1:qo t H ρ id W w) (w':Wd) (n1 : ¬ P (id,.x)) (en:w'.n = w.n) (ec:w'.ja6 = w.ja6)
  (kd:(ρ W.kd = some (id,.kd) → (∃ kvs,H W.kd = some (.dK kvs) ∧ yr t H ρ id kvs w.ks) → ρ' W.kd = some (id,.kd) ∧ ∃ kvs,H' W.kd = some (.dK kvs) ∧ yr t H' ρ' id kvs w'.ks))
  (bd:(ρ W.bd = some (id,.bd) → ρ W.S = some (id,.sd) → (∃ kvs,yz t H W.bd W.db W.S w.en kvs (thP w.bd) ∧ jzn ρ id kvs) → ρ' W.bd = some (id,.bd) ∧ ρ' W.S = some (id,.sd) ∧ ∃ kvs,yz t H' W.bd W.db W.S w'.en kvs (thP w'.bd) ∧ jzn ρ' id kvs))
  (ak:(ρ W.ak = some (id,.ak) → (∃ rs,H W.ak = some (.lst (rs.map V.ref)) ∧ jrh H ρ id rs w.asked) → ρ' W.ak = some (id,.ak) ∧ ∃ rs,H' W.ak = some (.lst (rs.map V.ref)) ∧ jrh H' ρ' id rs w'.asked))
  (wy:(ρ W.wy = some (id,.wy) → (∃ xs,H W.wy = some (.lst xs) ∧ Paired (jmu H ρ) xs w.way) → ρ' W.wy = some (id,.wy) ∧ ∃ xs,H' W.wy = some (.lst xs) ∧ Paired (jmu H' ρ') xs w'.way)) : qo t H' ρ' id W w':=by
 refine ⟨?_,?_,kd w1.kd.1 w1.kd.2,bd w1.bd.1 w1.bd.2.1 w1.bd.2.2,ak w1.ak.1 w1.ak.2,wy w1.wy.1 w1.wy.2⟩
 ·rw [en]
  exact jej f w1.ob.1 w1.ob.2 n1
 ·rw [ec]
  exact jp7 f w1.ch.1 w1.ch.2
theorem ue (f:Fr P ρ H ρ' H') (n1 : ¬ P (id,.kd)) (n2 : ∀ h i,¬ P (id,.kp h i)) {kd:Addr} {ks:List (Int × Kp)} (r : ρ kd = some (id,.kd)) (h : ∃ kvs,H kd = some (.dK kvs) ∧ yr t H ρ id kvs ks) : ρ' kd = some (id,.kd) ∧ ∃ kvs,H' kd = some (.dK kvs) ∧ yr t H' ρ' id kvs ks:=by
 obtain ⟨kvs,hk,q⟩:=h
 obtain ⟨h',r'⟩:=jej f hk r n1
 exact ⟨r',kvs,h',q.fr f n2⟩
theorem jbf (f:Fr P ρ H ρ' H') (n1 : ¬ P (id,.bd)) (n2 : ¬ P (id,.sd)) (n3 : ¬ P (id,.sg)) {b db S:Addr} {en:Int} {is:ym} (rb : ρ b = some (id,.bd)) (rS : ρ S = some (id,.sd)) (h : ∃ kvs,yz t H b db S en kvs (thP is) ∧ jzn ρ id kvs) : ρ' b = some (id,.bd) ∧ ρ' S = some (id,.sd) ∧ ∃ kvs,yz t H' b db S en kvs (thP is) ∧ jzn ρ' id kvs:=by
 obtain ⟨kvs,B,sg⟩:=h
 obtain ⟨B',rb',rS',sg'⟩:=B.fr f rb rS sg n1 n2 n3
 exact ⟨rb',rS',kvs,B',sg'⟩
theorem jfp (f:Fr P ρ H ρ' H') (n1 : ¬ P (id,.ak)) (n2 : ∀ i,¬ P (id,.row i)) {ak:Addr} {asked:List (List O)} (r : ρ ak = some (id,.ak)) (h : ∃ rs,H ak = some (.lst (rs.map V.ref)) ∧ jrh H ρ id rs asked) : ρ' ak = some (id,.ak) ∧ ∃ rs,H' ak = some (.lst (rs.map V.ref)) ∧ jrh H' ρ' id rs asked:=by
 obtain ⟨rs,hk,q⟩:=h
 obtain ⟨h',r'⟩:=jej f hk r n1
 exact ⟨r',rs,h',q.fr f n2⟩
theorem jt7 (f:Fr P ρ H ρ' H') (n1 : ¬ P (id,.wy)) {wy:Addr} {way:List (Bool × Int × O)} (r : ρ wy = some (id,.wy)) (h : ∃ xs,H wy = some (.lst xs) ∧ Paired (jmu H ρ) xs way) : ρ' wy = some (id,.wy) ∧ ∃ xs,H' wy = some (.lst xs) ∧ Paired (jmu H' ρ') xs way:=by
 obtain ⟨rs,hk,q⟩:=h
 obtain ⟨h',r'⟩:=jej f hk r n1
 exact ⟨r',rs,h',Paired.pz q fun _ _=>jmu.fr f⟩
end
theorem jmd {α β : Type} {F : α → β → Prop} : ∀ {xs xs':List α} {ys ys':List β},Paired F xs ys → Paired F xs' ys' → Paired F (xs ++ xs') (ys ++ ys')
 | _,_,_,_,.nil,h=>h
 | _,_,_,_,.cons a r,h=>.cons a (jmd r h)
theorem big {n:Nat} (h:n ≤ 1000000) : n < sizeLine:=Nat.lt_of_le_of_lt h (by decide)
theorem j5l {n:Nat} (h:n ≤ 1000000) : n ≤ sizeLine:=Nat.le_of_lt (big h)
abbrev Frm (H:Hp) (x:Addr) (G:Hp) : Prop:=∀ b u,H b = some u → b ≠ x → G b = some u
theorem Fr.j26 {P:Role → Prop} {ρ : Rho} {H G:Hp} {x:Addr} {r:Role} (h : ρ x = some r) (p:P r) (f:Frm H x G) : Fr P ρ H ρ G:=fun b u e n=>⟨f b u e fun z=>n r (z ▸ h) p,rfl⟩
theorem OkR.j26 {ρ : Rho} {H G:Hp} {x:Addr} {u:HO} (k:OkR ρ H) (f:Frm H x G) (hx:G x = some u) (nu:jt9 u) : OkR ρ G:=fun b r h=>by
 by_cases z:b = x
 ·subst z
  exact ⟨u,hx,nu⟩
 ·obtain ⟨v,e,n⟩:=k b r h
  exact ⟨v,f b v e z,n⟩
def isP (id:Nat) (p:Part) : Role → Prop:=fun r=>r = (id,p)
theorem jv {id:Nat} {p q:Part} (h:q ≠ p:=by intro z; cases z) : ¬ isP id p (id,q):=fun z=>h (Prod.mk.inj z).2
theorem j36 {a:Addr} {o:Obj} {kvs:List (Key × V)} {g:TG} {tb:TS} {D:Ends} {σ : St} {H:Hp} (Pv:Nat → St → Hp → Prop) (h0:Pv 0 σ H) (hl : ∀ i σ H,i ≤ kvs.length → Pv i σ H → H a = some (.frz o (.dK kvs)))
  (hs : ∀ i kv σ H,kvs[i]? = some kv → Pv i σ H → g (kV kv.1) σ H fun σ2 H2=>tb { D with nx:=Pv (i + 1),ct:=Pv (i + 1),bk:=D.nx } σ2 H2) (hd : ∀ σ H,Pv kvs.length σ H → D.nx σ H) :
  ∃ W:Nat → Nat → St → Hp → Prop,(∃ m,W 0 m σ H) ∧ ∀ i m σ H,W i m σ H →
   ((Itd a o kvs).stop i H ∧ D.nx σ H) ∨ ((Itd a o kvs).go i H ∧ ∃ N:St → Hp → Prop,(∀ σ' H',N σ' H' → ∃ m',m' < m ∧ W (i + 1) m' σ' H') ∧ ∀ x H',(Itd a o kvs).yld i H x H' → g x σ H' fun σ2 H2=>tb { D with nx:=N,ct:=N,bk:=D.nx } σ2 H2):=by
 refine ⟨fun i m σ H=>m = kvs.length - i ∧ i ≤ kvs.length ∧ Pv i σ H,⟨kvs.length,by simp,Nat.zero_le _,h0⟩,?_⟩
 rintro i m σ H ⟨rfl,hi,p⟩
 have q:=hl i σ H hi p
 by_cases hlt:i < kvs.length
 ·refine .inr ⟨⟨hlt,q⟩,Pv (i + 1),fun σ' H' p'=>⟨kvs.length - (i + 1),by omega,rfl,hlt,p'⟩,fun x H' y=>?_⟩
  obtain ⟨e,kv,ek,ex⟩:=y
  subst e ex
  exact hs i kv σ _ ek p
 ·have e:i = kvs.length:=by omega
  subst e
  exact .inl ⟨⟨Nat.le_refl _,q⟩,hd σ H p⟩
theorem jbm (T:Txt K mg t) : yf P w K mg base CX0 1 t.jc3 t.jcw ["self"] (fun vs H Q _=>∃ ρ id W ω,vs = [.ref W.x] ∧ qo t H ρ id W ω ∧ ω.way.length ≤ 100000 ∧ ∀ r xs,H r = none → Paired (jmu H ρ) xs ω.way → Q (.ref r) (upd H r (.lst xs))):=by
 refine T.jg1.ok jnv (fun vs H Q E h=>?_) (fun cdv A outer s H vs Q E hr h=>?_)
 ·obtain ⟨ρ,id,W,ω,rfl,_⟩:=h
  rfl
 ·obtain ⟨ρ,id,W,ω,rfl,O,l,k⟩:=h
  refine ⟨_,(@jd _ _ _ (j4 (jc0 vo rfl T.jiz boot_list (jc (j9 (pv 0) rfl) jf)))),?_⟩
  obtain ⟨rw_,xs,hw,pw⟩:=O.wy
  exact ⟨_,rfl,W.x,_,W.dx,_,_,rfl,O.ob.1,T.ji,T.qq,jak,W.wy,xs,rfl,.inl (SqL.of hw),fun r nr=>k r xs nr pw⟩
theorem ja8 (T:Txt K mg t) : yf P w K mg base CX0 1 t.wq t.wo ["self","word","order"] (fun vs H Q _=>∃ ρ id W ω b q o,vs = [.ref W.x,jv5 b,.ref q] ∧ qo t H ρ id W ω ∧ OkR ρ H ∧ zj H ρ (.ref q) o ∧ ω.way.length ≤ 100000 ∧ ω.ks.length ≤ 16 ∧
    ∀ H',qo t H' ρ id W (ω.post b o) → Fr (isP id .wy) ρ H ρ H' → OkR ρ H' → Q .non H'):=by
  refine T.jbz.ok jbd (fun vs H Q E h=>?_) (fun cdv A outer s H vs Q E hr h=>?_)
  · obtain ⟨ρ,id,W,ω,b,q,o,rfl,_⟩:=h
    rfl
  · obtain ⟨ρ,id,W,ω,b,q,o,rfl,O,kr,uq,l,l2,k⟩:=h
    refine ⟨_,(@jd _ _ _ (j3g (jg7 PassesOwn.never rfl (j5u (j9 (pv 0) rfl)) (ju (i:=3) jbd.nd rfl (Or.inl rfl)) (@jd _ _ _ (qe (jj0 PySem.F.plainAttrs_list PySem.F.slot_list_append PySem.F.type_list_append vq (j9 (pv 0) rfl) (jc (@jm0 _ _ _ _ _ (@jmy _ _ _ _ _ _ _ (pv 1) (pv 3) (pv 2) rfl rfl rfl)) jf))))))),?_⟩
    obtain ⟨rk,kvs,kd,ks⟩:=O.kd
    obtain ⟨rw_,way,wy,pw⟩:=O.wy
    have ob:=O.ob.1
    have kw:W.kd ≠ W.wy:=ner rk rw_ (by intro z; cases z)
    have kx:W.x ≠ W.kd:=ner O.ob.2 rk (by intro z; cases z)
    have wx:W.x ≠ W.wy:=ner O.ob.2 rw_ (by intro z; cases z)
    have lk:kvs.length = ω.ks.length:=Paired.length ks
    have lw:way.length = ω.way.length:=Paired.length pw
    refine ⟨_,rfl,W.x,_,W.dx,_,_,rfl,ob,T.ji,T.ze,jcx,W.kd,kvs,rfl,kd,fun oo=>j36 (fun i σ H'=>∃ v ts,σ = [some (.ref W.x),some (jv5 b),some (.ref q),v] ∧ ts.length = i ∧ H' W.wy = some (.lst (way ++ ts)) ∧ Frm (upd H W.kd (.frz oo (.dK kvs))) W.wy H' ∧ Paired (fun x (c:Int × Kp)=>∃ a,x = .ref a ∧ H a = none ∧ H' a = some (.tup [jv5 b,.int c.1,.ref q])) ts (ω.ks.take i)) ?_ ?_ ?_ ?_⟩
    · exact ⟨none,[],rfl,rfl,(by rw [List.append_nil,je kw.symm]; exact wy),(fun b u e _=>e),.nil⟩
    · rintro i σ H' _ ⟨v,ts,_,_,_,f,_⟩
      exact f _ _ ja kw
    · rintro i kv σ H' ek ⟨v,ts,rfl,lt,hw,f,pt⟩
      obtain ⟨c,ec,e1,_⟩:=qi ks ek
      have ob':H' W.x = some (.ins t.jy W.dx (W.fs ω.n)):=f _ _ (by rw [je kx]; exact ob) wx
      have hi:=(List.getElem?_eq_some_iff.mp ek).1
      refine ⟨_,rfl,W.x,_,W.dx,_,_,rfl,ob',T.ji,T.qq,jak,.inl ⟨rfl,_,SqL.of hw⟩,_,rfl,_,rfl,_,rfl,zs3,fun p np=>?_⟩
      have sp:=jg (o:=.tup [jv5 b,kV kv.1,.ref q]) np
      have np0:H p = none:=by
        cases e:H p with
        | none=>rfl
        | some u=>
          exfalso
          by_cases z:p = W.wy
          · rw [z,hw] at np
            cases np
          · by_cases z2:p = W.kd
            · rw [z2,f _ _ ja kw] at np
              cases np
            · have:=f p u (by rw [je z2]; exact e) z
              rw [np] at this
              cases this
      have pw_:p ≠ W.wy:=fun z=>by
        rw [z,hw] at np
        cases np
      refine ⟨W.wy,_,_,rfl,rfl,sp _ _ hw,big (by rw [List.length_append,lt]; omega),_,ts ++ [.ref p],rfl,?_,?_,fun b' u e bw=>?_,?_⟩
      · rw [List.length_append,lt]; rfl
      · rw [ja,List.append_assoc]
      · rw [je bw]
        exact sp _ _ (f _ _ e bw)
      · rw [take_snoc ec]
        refine qy (Paired.pz pt fun _ _ ⟨a,e,n,h'⟩=>⟨a,e,n,?_⟩) ⟨p,rfl,np0,?_⟩
        · rw [je (fun z=>by rw [z,hw] at h'; cases h')]
          exact sp _ _ h'
        · rw [je pw_,ja,e1]
          rfl
    · rintro σ H' ⟨v,ts,rfl,lt,hw,f,pt⟩
      have fin:Frm H W.wy (upd H' W.kd (.dK kvs)):=fun b' u e bw=>by
        by_cases z:b' = W.kd
        · subst z
          rw [kd] at e
          rw [ja,← e]
        · rw [je z]
          exact f _ _ (by rw [je z]; exact e) bw
      have hw':upd H' W.kd (.dK kvs) W.wy = some (.lst (way ++ ts)):=by rw [je kw.symm]; exact hw
      refine ⟨W.kd,oo,.dK kvs,f _ _ ja kw,fun o' u' z=>?_,True.intro,?_⟩
      · have z':H W.kd = some (.frz o' u'):=z
        rw [kd] at z'
        cases z'
      have fr:Fr (isP id .wy) ρ H ρ (upd H' W.kd (.dK kvs)):=Fr.j26 rw_ rfl fin
      rw [lk,List.take_length] at pt
      refine k _ (O.but fr (ω.post b o) jv rfl rfl (ue fr jv (fun _ _=>jv)) (jbf fr jv jv jv) (jfp fr jv (fun _=>jv)) (fun _ _=>⟨rw_,_,hw',?_⟩)) fr (kr.j26 fin hw' (by exact True.intro))
      have up:=uq.fr fr
      have q2:Paired (jmu (upd H' W.kd (.dK kvs)) ρ) ts (ω.ks.map fun c=>(b,c.1,o)):=by
        clear hw' lt hw
        have gen : ∀ {xs:List V} {cs:List (Int × Kp)},Paired (fun x (c:Int × Kp)=>∃ a,x = .ref a ∧ H a = none ∧ H' a = some (.tup [jv5 b,.int c.1,.ref q])) xs cs → Paired (jmu (upd H' W.kd (.dK kvs)) ρ) xs (cs.map fun c=>(b,c.1,o)):=fun {xs cs} h=>by
          induction h with
          | nil=>exact .nil
          | cons a _ ih=>
            obtain ⟨p,e,n,hp⟩:=a
            refine .cons ⟨p,q,e,kr.none n,?_,up⟩ ih
            rw [je (fun z=>by rw [z,kd] at n; cases n)]
            exact hp
        exact gen pt
      exact jmd (Paired.pz pw fun _ _=>jmu.fr fr) q2
def j3m (id:Nat) : Role → Prop:=fun r=>r = (id,.wy) ∨ r = (id,.sd) ∨ r = (id,.sg)
theorem ju0 {id:Nat} {p:Part} (h1:p ≠ .wy) (h2:p ≠ .sd) (h3:p ≠ .sg) : ¬ j3m id (id,p):=fun z=>by
 rcases z with z | z | z
 ·exact h1 (Prod.mk.inj z).2
 ·exact h2 (Prod.mk.inj z).2
 ·exact h3 (Prod.mk.inj z).2
structure Sz (ω : Wd) (a b c:Nat) : Prop where
 bd : ω.bd.length ≤ a
 hs : ∀ x ∈ ω.bd,x.2.length ≤ b
 wy : ω.way.length ≤ c
 ks : ω.ks.length ≤ 16
theorem jvq {k:List Int} {h:Int} : ∀ {is:ym} {a b:Nat},is.length ≤ a → (∀ x ∈ is,x.2.length ≤ b) → (jd6 is k h).length ≤ a + 1 ∧ ∀ x ∈ jd6 is k h,x.2.length ≤ b + 1
 | [],a,b,_,_=>⟨by show 1 ≤ a + 1; omega,fun x hx=>by rw [List.mem_singleton.mp hx]; show 1 ≤ b + 1; omega⟩
 | p :: ps,a,b,h1,h2=>by
  unfold jd6
  split
  ·refine ⟨by rw [List.length_cons] at h1 ⊢; omega,fun x hx=>?_⟩
   rcases List.mem_cons.mp hx with rfl | hx
   ·have:=h2 p List.mem_cons_self
    show (p.2 ++ [h]).length ≤ b + 1
    rw [List.length_append]
    show p.2.length + 1 ≤ b + 1
    omega
   ·have:=h2 x (List.mem_cons_of_mem _ hx)
    omega
  ·rw [List.length_cons] at h1
   obtain ⟨i1,i2⟩:=jvq (k:=k) (h:=h) (is:=ps) (a:=a - 1) (b:=b) (by omega) (fun x hx=>h2 x (List.mem_cons_of_mem _ hx))
   refine ⟨by rw [List.length_cons]; omega,fun x hx=>?_⟩
   rcases List.mem_cons.mp hx with rfl | hx
   ·have:=h2 x List.mem_cons_self
    omega
   ·exact i2 x hx
theorem Sz.put {ω : Wd} {a b c:Nat} (z:Sz ω a b c) (h:Int) (o:O) : Sz (ω.put h o).1 (a + 1) (b + 1) c:=by
 unfold Wd.put
 split
 ·exact ⟨Nat.le_succ_of_le z.bd,fun x hx=>Nat.le_succ_of_le (z.hs x hx),z.wy,z.ks⟩
 ·obtain ⟨i1,i2⟩:=jvq (k:=vu o) (h:=h) z.bd z.hs
  exact ⟨i1,i2,z.wy,z.ks⟩
theorem Sz.jew {ω : Wd} {a b c:Nat} (z:Sz ω a b c) (h:Int) (o:O) : Sz (ω.jew h o) (a + 1) (b + 1) (c + 16):=by
 have p:=z.put h o
 unfold Wd.jew
 split
 ·refine ⟨p.bd,p.hs,?_,p.ks⟩
  show ((ω.put h o).1.way ++ _).length ≤ c + 16
  rw [List.length_append,List.length_map]
  have:=p.wy
  have:=p.ks
  omega
 ·exact ⟨p.bd,p.hs,by have:=p.wy; omega,p.ks⟩
theorem Sz.mono {ω : Wd} {a b c a' b' c':Nat} (z:Sz ω a b c) (h1:a ≤ a') (h2:b ≤ b') (h3:c ≤ c') : Sz ω a' b' c':=⟨Nat.le_trans z.bd h1,fun x hx=>Nat.le_trans (z.hs x hx) h2,Nat.le_trans z.wy h3,z.ks⟩
theorem jqs (ω : Wd) (h:Int) {os:List O} {i:Nat} {o:O} (e:os[i]? = some o) : ω.zq h (os.take (i + 1)) = (ω.zq h (os.take i)).jew h o:=by
 unfold Wd.zq
 rw [take_snoc e,List.foldl_append]
 rfl
theorem Sz.zq {ω : Wd} {a b c:Nat} (z:Sz ω a b c) (h:Int) {os:List O} : ∀ i,i ≤ os.length → Sz (ω.zq h (os.take i)) (a + i) (b + i) (c + 16 * i)
 | 0,_=>z
 | i + 1,hi=>by
  rw [jqs ω h (List.getElem?_eq_getElem (show i < os.length by omega))]
  exact ((Sz.zq z h i (by omega)).jew h _).mono (by omega) (by omega) (by omega)
theorem jml {k:List Int} : ∀ {is:ym},jx is k = [] ∨ ∃ x ∈ is,jx is k = x.2
 | []=>.inl rfl
 | p :: ps=>by
  unfold jx
  split
  ·exact .inr ⟨p,List.mem_cons_self,rfl⟩
  ·rcases jml (k:=k) (is:=ps) with h | ⟨x,hx,e⟩
   ·exact .inl h
   ·exact .inr ⟨x,List.mem_cons_of_mem _ hx,e⟩
theorem Sz.hl {ω : Wd} {a b c:Nat} (z:Sz ω a b c) (k:List Int) : (jx ω.bd k).length ≤ b:=by
 rcases jml (k:=k) (is:=ω.bd) with h | ⟨x,hx,e⟩
 ·rw [h]
  exact Nat.zero_le _
 ·rw [e]
  exact z.hs x hx
open Classical in
noncomputable def jpz (ρ : Rho) (id:Nat) (kvs kvs':List (List Key × V)) : Rho:=fun a=>if ∃ kv ∈ kvs',kv.2 = .ref a then some (id,.sg) else if ∃ kv ∈ kvs,kv.2 = .ref a then none else ρ a
theorem uv (T : Txt K mg t) : yf P w K mg base CX0 2 t.jaj t.jal ["self","house","orders"] (fun vs H Q _=>∃ ρ id W ω h r xs os a b c,vs = [.ref W.x,.int h,.ref r] ∧ qo t H ρ id W ω ∧ OkR ρ H ∧ H r = some (.lst xs) ∧ (∀ ro,ρ r = some ro → ¬ j3m id ro) ∧ Paired (zj H ρ) xs os ∧ Sz ω a b c ∧ a + os.length ≤ 1000 ∧ b + os.length ≤ 1000 ∧ c + 16 * os.length ≤ 100000 ∧
    ∀ ρ' H',qo t H' ρ' id W (ω.zq h os) → Fr (j3m id) ρ H ρ' H' → OkR ρ' H' → Q .non H'):=by
  refine T.je2.ok jdo (fun vs H Q E h=>?_) (fun cdv A outer s H vs Q E hr h=>?_)
  · obtain ⟨ρ,id,W,ω,h,r,xs,os,a,b,c,rfl,_⟩:=h
    rfl
  · obtain ⟨ρ,id,W,ω,h,r,xs,os,a,b,c,rfl,O,kr,hx,nr,px,sz,la,lb,lc,k⟩:=h
    refine ⟨_,(@jd _ _ _ (jg7 PassesOwn.never rfl (@jbh _ _ _ _ (pv 2)) (ju (i:=3) jdo.nd rfl (Or.inl rfl)) (@jd _ _ _ (zo (xb (j6 (j9 (pv 0) rfl) T.yj T.jm9 (jts T) hr.dn T.joh .nil jr (@v8 _ _ _ _ _ (pv 1) (pv 3) rfl rfl))) (@jd _ _ _ (qe (j6 (pv 0) T.ji T.vp (ja8 T) hr.dn T.wu .nil jr (@v8 _ _ _ _ _ (zc (v:=.str "paper") rfl T.jem.choose_spec ⟨_,rfl⟩) (pv 3) rfl rfl)))) qc)))),?_⟩
    have lx:xs.length = os.length:=Paired.length px
    refine ⟨_,rfl,r,rfl,⟨_,SqL.of hx⟩,jfy (K:=K) (a:=r) (xs:=xs) (fun i σ H'=>∃ v ρ',σ = [some (.ref W.x),some (.int h),some (.ref r),v] ∧ qo t H' ρ' id W (ω.zq h (os.take i)) ∧ Fr (j3m id) ρ H ρ' H' ∧ OkR ρ' H') ⟨none,ρ,rfl,O,Fr.refl,kr⟩ (fun i σ H' _ ⟨_,ρ',_,_,f,_⟩=>SqL.of (f _ _ hx nr).1) ?_ ?_⟩
    · rintro i x σ H1 ex ⟨v,ρ1,rfl,O1,f1,kr1⟩
      obtain ⟨o,eo,uo⟩:=qi px ex
      have uo1:=uo.fr f1
      obtain ⟨q,rfl,nq,hq⟩:=uo1
      have hi:=(List.getElem?_eq_some_iff.mp eo).1
      have z1:=sz.zq h (os:=os) i (by omega)
      rw [jqs ω h eo]
      generalize ω.zq h (os.take i) = ω1 at O1 z1 ⊢
      obtain ⟨rb,rS,kvs,B,sg⟩:=O1.bd
      have ek:qj (thP ω1.bd) (jn4 o) = jx ω1.bd (vu o):=jep (vu o) ω1.bd
      have lk:kvs.length ≤ 1000:=by
        rw [Paired.length B.hs,thP,List.length_map]
        have:=z1.bd
        omega
      have lh:=z1.hl (vu o)
      refine ⟨_,rfl,W.x,_,W.dx,_,_,rfl,O1.ob.1,T.ji,T.yy,jkt,W.bd,W.db,_,rfl,B.ob,jsx _ _ (by decide +kernel) (by decide +kernel),_,rfl,_,rfl,W.bd,W.db,W.S,ω1.en,kvs,thP ω1.bd,q,jn4 o,h,rfl,B,hq,lk,by rw [ek]; omega,fun hm H2 s2=>?_,fun hm kvs' H2 B2 k2 nn2=>?_⟩
      · rw [ek] at hm
        refine ⟨_,rfl,pq ⟨_,ρ1,rfl,?_,f1.trans (Fr.same s2),kr1.same s2⟩⟩
        have e : ω1.jew h o = ω1:=by
          unfold Wd.jew Wd.put
          rw [if_pos hm]
          rfl
        rw [e]
        exact O1.fr (P:=fun _=>False) (fun _ z=>z) (Fr.same s2)
      · rw [ek] at hm
        rw [ek]
        have inS : ∀ {a:Addr},(∃ kv ∈ kvs,kv.2 = .ref a) → ρ1 a = some (id,.sg):=fun {a} ⟨kv,m,e⟩=>by
          obtain ⟨c,ec,rc⟩:=sg kv m
          rw [e] at ec
          cases ec
          exact rc
        have f2:Fr (j3m id) ρ1 H1 (jpz ρ1 id kvs kvs') H2:=fun a u e n=>by
          have n1 : ¬ ∃ kv ∈ kvs,kv.2 = .ref a:=fun z=>n _ (inS z) (.inr (.inr rfl))
          have n2:NotIn kvs a:=fun kv m e=>n1 ⟨kv,m,e⟩
          have n3 : ¬ ∃ kv ∈ kvs',kv.2 = .ref a:=fun ⟨kv,m,e'⟩=>nn2 a u e n2 kv m e'
          refine ⟨k2 a u e (fun z=>n _ (z ▸ rS) (.inr (.inl rfl))) n2,?_⟩
          unfold jpz
          rw [if_neg n3,if_neg n1]
        have kr2:OkR (jpz ρ1 id kvs kvs') H2:=fun a ro e=>by
          unfold jpz at e
          split at e
          · rename_i hm'
            obtain ⟨kv,m,ev⟩:=hm'
            obtain ⟨j,hj,ej⟩:=List.mem_iff_getElem.mp m
            obtain ⟨pp,_,_,c,ec,hc⟩:=qi B2.hs (by rw [List.getElem?_eq_getElem hj,ej])
            rw [ev] at ec
            cases ec
            exact ⟨_,hc,True.intro⟩
          · split at e
            · cases e
            · rename_i n1
              obtain ⟨u,hu,nu⟩:=kr1 a ro e
              by_cases z:a = W.S
              · subst z
                exact ⟨_,B2.sg,True.intro⟩
              · exact ⟨u,k2 a u hu z (fun kv m e=>n1 ⟨kv,m,e⟩),nu⟩
        have O2:qo t H2 (jpz ρ1 id kvs kvs') id W { ω1 with bd:=jd6 ω1.bd (vu o) h }:=by
          refine O1.but f2 _ (ju0 (by intro z; cases z) (by intro z; cases z) (by intro z; cases z)) rfl rfl (ue f2 (ju0 (by intro z; cases z) (by intro z; cases z) (by intro z; cases z)) fun _ _=>ju0 (by intro z; cases z) (by intro z; cases z) (by intro z; cases z)) (fun rb' rS' _=>?_) (jfp f2 (ju0 (by intro z; cases z) (by intro z; cases z) (by intro z; cases z)) fun _=>ju0 (by intro z; cases z) (by intro z; cases z) (by intro z; cases z)) (fun rw' hw'=>?_)
          · have e:=jvx (vu o) h ω1.bd
            rw [show jnw (vu o) = jn4 o from rfl] at e
            rw [e] at B2
            have nS : ∀ {a:Addr} {r:Role} {u:HO},ρ1 a = some r → H1 a = some u → r ≠ (id,.sg) → jpz ρ1 id kvs kvs' a = some r:=fun {a r u} er eu n=>by
              have n1 : ¬ ∃ kv ∈ kvs,kv.2 = .ref a:=fun z=>n (Option.some.inj (er.symm.trans (inS z)))
              have n3 : ¬ ∃ kv ∈ kvs',kv.2 = .ref a:=fun ⟨kv,m,e'⟩=>nn2 a u eu (fun kv m e=>n1 ⟨kv,m,e⟩) kv m e'
              unfold jpz
              rw [if_neg n3,if_neg n1]
              exact er
            refine ⟨nS rb B.ob (by intro z; cases z),nS rS B.sg (by intro z; cases z),kvs',B2,fun kv m=>?_⟩
            obtain ⟨j,hj,ej⟩:=List.mem_iff_getElem.mp m
            obtain ⟨pp,_,_,c,ec,hc⟩:=qi B2.hs (by rw [List.getElem?_eq_getElem hj,ej])
            refine ⟨c,ec,?_⟩
            unfold jpz
            rw [if_pos ⟨kv,m,ec⟩]
          · obtain ⟨ws,h1,p1⟩:=hw'
            have n1 : ¬ ∃ kv ∈ kvs,kv.2 = .ref W.wy:=fun z=>by
              have:=inS z
              rw [rw'] at this
              cases this
            have n2:NotIn kvs W.wy:=fun kv m e=>n1 ⟨kv,m,e⟩
            have n3 : ¬ ∃ kv ∈ kvs',kv.2 = .ref W.wy:=fun ⟨kv,m,e'⟩=>nn2 _ _ h1 n2 kv m e'
            refine ⟨?_,ws,k2 _ _ h1 (ner rw' rS (by intro z; cases z)) n2,Paired.pz p1 fun _ _=>jmu.fr f2⟩
            unfold jpz
            rw [if_neg n3,if_neg n1]
            exact rw'
        have ev : ω1.put h o = ({ ω1 with bd:=jd6 ω1.bd (vu o) h },decide (((jx ω1.bd (vu o)).length:Int) + 1 = ω1.en)):=by
          unfold Wd.put
          rw [if_neg hm]
        refine ⟨_,rfl,jgn (fun z=>?_) (fun z=>?_)⟩
        · have zp:=z1.put h o
          rw [ev] at zp
          have hq2:zj H2 (jpz ρ1 id kvs kvs') (.ref q) o:=zj.fr f2 ⟨q,rfl,nq,hq⟩
          refine ⟨_,rfl,W.x,W.dx,_,rfl,O2.ob.1,qv,_,rfl,_,id,W,_,false,q,o,rfl,O2,kr2,hq2,by show ω1.way.length ≤ 100000; have:=z1.wy; omega,zp.ks,fun H3 O3 f3 kr3=>⟨_,_,rfl,?_,(f1.trans f2).trans (f3.mono fun r hr=>.inl hr),kr3⟩⟩
          have e : ω1.jew h o = Wd.post { ω1 with bd:=jd6 ω1.bd (vu o) h } false o:=by
            unfold Wd.jew
            rw [ev,if_pos z]
          rw [e]
          exact O3
        · refine ⟨_,_,rfl,?_,f1.trans f2,kr2⟩
          have e : ω1.jew h o = { ω1 with bd:=jd6 ω1.bd (vu o) h }:=by
            unfold Wd.jew
            rw [ev,if_neg z]
          rw [e]
          exact O2
    · rintro σ H1 ⟨v,ρ1,rfl,O1,f1,kr1⟩
      rw [lx,List.take_length] at O1
      exact k ρ1 H1 O1 f1 kr1
theorem jh8 (ks:List (Int × Kp)) (h:Int) (κ : Kp) : (jnt ks h κ).length = ks.length:=List.length_map ..
theorem jon {t:Ad} {H:Hp} {ρ : Rho} {id:Nat} {h:Int} {κ : Kp} : ∀ {kvs:List (Key × V)} {ks:List (Int × Kp)},yr t H ρ id kvs ks → (ks.find? fun c=>decide (c.1 = h)).map (·.2) = some κ → ∃ k A dk,jgm kvs (.inl h) = some (.ref k) ∧ xj t H ρ id h k A dk κ
 | _,_,.nil,e=>by cases e
 | kv :: kvs,c :: ks,.cons ⟨e1,k,A,dk,e2,R⟩ r,e=>by
  by_cases z:c.1 = h
  ·rw [List.find?_cons,decide_eq_true z] at e
   obtain rfl:c.2 = κ:=Option.some.inj e
   subst z
   exact ⟨k,A,dk,by rw [jb6 (by rw [e1]),e2],R⟩
  ·rw [List.find?_cons,decide_eq_false z] at e
   obtain ⟨k',A',dk',v,R'⟩:=jon r e
   exact ⟨k',A',dk',by rw [jb4 (fun y=>z (Sum.inl.inj (e1.symm.trans y)))]; exact v,R'⟩
theorem jsw {t:Ad} {H H':Hp} {ρ ρ':Rho} {id:Nat} {h:Int} {κ':Kp} {k:Addr} {A':Nat → Addr} {dk:Addr} (f:Fr (isK id h) ρ H ρ' H') (R':xj t H' ρ' id h k A' dk κ') : ∀ {kvs:List (Key × V)} {ks:List (Int × Kp)},(ks.map (·.1)).Nodup → jgm kvs (.inl h) = some (.ref k) → yr t H ρ id kvs ks → yr t H' ρ' id kvs (jnt ks h κ')
 | _,_,_,_,.nil=>.nil
 | kv :: kvs,c :: ks,nd,ev,.cons ⟨e1,k0,A,dk0,e2,R⟩ r=>by
  rw [List.map_cons,List.nodup_cons] at nd
  show Paired _ (kv :: kvs) ((if c.1 = h then (h,κ') else c) :: jnt ks h κ')
  have oth : ∀ {kvs:List (Key × V)} {ks:List (Int × Kp)},h ∉ ks.map (·.1) → yr t H ρ id kvs ks → yr t H' ρ' id kvs (jnt ks h κ'):=fun {kvs ks} nh q=>by
   induction q with
   | nil=>exact .nil
   | cons a _ ih=>
    rename_i b _ _ _
    rw [List.map_cons,List.mem_cons] at nh
    obtain ⟨x1,x2,x3,x4,x5,x6⟩:=a
    have nb : ¬ b.1 = h:=fun z=>nh (.inl z.symm)
    show Paired _ (_ :: _) ((if b.1 = h then (h,κ') else b) :: jnt _ h κ')
    rw [if_neg nb]
    exact .cons ⟨x1,x2,x3,x4,x5,x6.fr (fun i ⟨j,e⟩=>nb (by cases e; rfl)) f⟩ (ih fun z=>nh (.inr z))
  by_cases z:c.1 = h
  ·subst z
   rw [if_pos rfl]
   rw [jb6 (by rw [e1])] at ev
   exact .cons ⟨e1,k,A',dk,Option.some.inj ev,R'⟩ (oth nd.1 r)
  ·rw [if_neg z]
   refine .cons ⟨e1,k0,A,dk0,e2,R.fr (fun i ⟨j,e⟩=>z (by cases e; rfl)) f⟩ (jsw f R' nd.2 ?_ r)
   rw [jb4 (fun y=>z (Sum.inl.inj (e1.symm.trans y)))] at ev
   exact ev
theorem qo.j1t {t:Ad} {H H':Hp} {ρ ρ':Rho} {id:Nat} {W:WA} {ω : Wd} {h:Int} {κ':Kp} {k:Addr} {A':Nat → Addr} {dk:Addr} (f:Fr (isK id h) ρ H ρ' H') (O:qo t H ρ id W ω) (nd:(ω.ks.map (·.1)).Nodup) (ek : ∀ kvs,H W.kd = some (.dK kvs) → jgm kvs (.inl h) = some (.ref k)) (R':xj t H' ρ' id h k A' dk κ') : qo t H' ρ' id W { ω with ks:=jnt ω.ks h κ' }:=by
 have no : ∀ {p:Part},(∀ i,p ≠ .kp h i) → ¬ isK id h (id,p):=fun hp ⟨i,e⟩=>hp i (Prod.mk.inj e).2
 refine O.but f _ (no fun _ z=>by cases z) rfl rfl (fun rk hk=>?_) (jbf f (no fun _ z=>by cases z) (no fun _ z=>by cases z) (no fun _ z=>by cases z)) (jfp f (no fun _ z=>by cases z) fun _=>no fun _ z=>by cases z) (jt7 f (no fun _ z=>by cases z))
 obtain ⟨kvs,h1,q⟩:=hk
 obtain ⟨h2,r2⟩:=jej f h1 rk (no fun _ z=>by cases z)
 exact ⟨r2,kvs,h2,jsw f R' nd (ek kvs h1) q⟩
theorem xp (T:Txt K mg t) : yf P w K mg base CX0 2 t.jap t.jaq ["self","house"] (fun vs H Q _=>∃ ρ id W ω h κ,vs = [.ref W.x,.int h] ∧ qo t H ρ id W ω ∧ ω.keep h = some κ ∧ ∀ k A dk,xj t H ρ id h k A dk κ → Q (.ref k) H):=by
 refine T.jeu.ok jk0 (fun vs H Q E h=>?_) (fun cdv A outer s H vs Q E hr h=>?_)
 ·obtain ⟨ρ,id,W,ω,h,κ,rfl,_⟩:=h
  rfl
 ·obtain ⟨ρ,id,W,ω,h,κ,rfl,O,e,g⟩:=h
  refine ⟨_,(@jb _ _ _ _ _ (zo (PW.pt (jko (yi (xb (jq (jjz T) hr.dn rfl T.jh4 T.jey.kp T.jhz .nil jr (jc (pv 1) jf)))) (je7 (jve (jog (jol hr) (pv 1) (j9 (pv 0) rfl)))))) qx qc)
   (@jd _ _ _ (j4 (jx8 (jol hr) (j9 (pv 0) rfl) (pv 1) (fun _ _=>rfl))))),?_⟩
  obtain ⟨rk,kvs,hk,ks⟩:=O.kd
  obtain ⟨k,A',dk,ev,R⟩:=jon ks e
  refine ⟨_,rfl,h,rfl,_,rfl,pq ?_⟩
  refine ⟨_,rfl,_,rfl,W.x,_,W.dx,_,_,rfl,O.ob.1,T.ji,T.ze,jcx,W.kd,some (.ref k),rfl,.inl ⟨kvs,.inl h,.inl hk,rfl,ev.symm⟩,_,rfl,pq ?_⟩
  exact ⟨_,rfl,W.x,_,W.dx,_,_,rfl,O.ob.1,T.ji,T.ze,jcx,_,rfl,W.kd,.ref k,rfl,.inl ⟨kvs,.inl h,.inl hk,rfl,ev.symm⟩,g k A' dk R⟩
theorem je8 (T:Txt K mg t) : yf P w K mg base CX0 3 t.jhd t.jgo ["self","house"] (fun vs H Q _=>∃ ρ id W ω h κ,vs = [.ref W.x,.int h] ∧ qo t H ρ id W ω ∧ ω.keep h = some κ ∧ κ.held.length ≤ 1000 ∧ ∀ r,H r = none → Q (.ref r) (upd H r (.lst (κ.held.map V.int)))):=by
 refine T.jm7.ok jr1 (fun vs H Q E h=>?_) (fun cdv A outer s H vs Q E hr h=>?_)
 ·obtain ⟨ρ,id,W,ω,h,κ,rfl,_⟩:=h
  rfl
 ·obtain ⟨ρ,id,W,ω,h,κ,rfl,O,e,l,g⟩:=h
  refine ⟨_,(@jd _ _ _ (j4 (jc0 vo rfl T.jiz boot_list (jc (j9 (j6 (pv 0) T.ji T.zd (xp T) hr.dn T.zw .nil jr (jc (pv 1) jf)) rfl) jf)))),?_⟩
  exact ⟨_,rfl,W.x,W.dx,_,rfl,O.ob.1,qv,_,rfl,ρ,id,W,ω,h,κ,rfl,O,e,fun k A' dk R=>⟨k,_,dk,_,_,rfl,R.ob,T.jm,T.xu,(xi A').1,A' 1,_,rfl,.inl (SqL.of R.he),g⟩⟩
theorem jbs (T:Txt K mg t) : yf P w K mg base CX0 3 t.jco t.jc4 ["self","house"] (fun vs H Q _=>∃ ρ id W ω h κ,vs = [.ref W.x,.int h] ∧ qo t H ρ id W ω ∧ ω.keep h = some κ ∧ κ.done.length ≤ 1000 ∧ ∀ r xs,H r = none → Paired (zj H ρ) xs κ.done → Q (.ref r) (upd H r (.lst xs))):=by
 refine T.jgq.ok jnu (fun vs H Q E h=>?_) (fun cdv A outer s H vs Q E hr h=>?_)
 ·obtain ⟨ρ,id,W,ω,h,κ,rfl,_⟩:=h
  rfl
 ·obtain ⟨ρ,id,W,ω,h,κ,rfl,O,e,l,g⟩:=h
  refine ⟨_,(@jd _ _ _ (j4 (jc0 vo rfl T.jiz boot_list (jc (j9 (j6 (pv 0) T.ji T.zd (xp T) hr.dn T.zw .nil jr (jc (pv 1) jf)) rfl) jf)))),?_⟩
  refine ⟨_,rfl,W.x,W.dx,_,rfl,O.ob.1,qv,_,rfl,ρ,id,W,ω,h,κ,rfl,O,e,fun k A' dk R=>?_⟩
  obtain ⟨xs,hx,px⟩:=R.dn
  exact ⟨k,_,dk,_,_,rfl,R.ob,T.jm,T.ja2,(xi A').2.2.1,A' 3,xs,rfl,.inl (SqL.of hx),fun r nr=>g r xs nr px⟩
theorem jb1 (T:Txt K mg t) : yf P w K mg base CX0 3 t.kq t.ku ["self","purse"] (fun vs H Q _=>∃ ρ id W ω p,vs = [.ref W.x,.int p] ∧ qo t H ρ id W ω ∧ 0 ≤ p ∧ p < (ω.n:Int) ∧ Q .non H):=by
 refine T.jcp.ok jik (fun vs H Q E h=>?_) (fun cdv A outer s H vs Q E hr h=>?_)
 ·obtain ⟨ρ,id,W,ω,p,rfl,_⟩:=h
  rfl
 ·obtain ⟨ρ,id,W,ω,p,rfl,O,p0,p1,g⟩:=h
  refine ⟨_,(@jd _ _ _ (zo (yi (xb (jq (qp T) hr.dn rfl T.qr T.ql.kp T.qt .nil jr (@jmy _ _ _ _ _ _ _ (pv 1) jn (xn jlm (j9 (pv 0) rfl) jn) rfl rfl rfl)))) qx qc)),?_⟩
  refine ⟨_,rfl,_,rfl,W.x,_,W.dx,_,_,rfl,O.ob.1,T.ji,T.vk,jl6,_,_,rfl,rfl,p,0,(ω.n:Int) - 1,rfl,_,rfl,?_⟩
  rw [decide_eq_true (show 0 ≤ p ∧ p ≤ (ω.n:Int) - 1 from ⟨p0,by omega⟩)]
  exact pq g
theorem jij (T:Txt K mg t) : yf P w K mg base (CX2 P w) 4 t.gy t.gz ["self","purse","goal"] (fun vs H Q E=>∃ ρ id W ω p q,vs = [.ref W.x,.int p,.int q] ∧ qo t H ρ id W ω ∧ (0 ≤ p ∧ p < (ω.n:Int)) ∧ (0 ≤ q ∧ q < (ω.n:Int)) ∧ q ≠ p ∧ (p ∈ ω.ja6 → ∀ d H',wz H H' → E (.ref t.xc) (some d) H') ∧ (p ∉ ω.ja6 → Q .non H)):=by
 refine T.jcy.okY jil (fun vs H Q E h=>?_) (fun cdv A outer s H vs Q E hr h=>?_)
 ·obtain ⟨ρ,id,W,ω,p,q,rfl,_⟩:=h
  rfl
 ·obtain ⟨ρ,id,W,ω,p,q,rfl,O,hp,hq,nq,gx,g⟩:=h
  refine ⟨_,(@jb _ _ _ _ _ (qe (j6 (pv 0) T.ji T.wj (jb1 T) hr.dn T.kb .nil jr (jc (pv 1) jf)))
   (@jb _ _ _ _ _ (qe (j6 (pv 0) T.ji T.wj (jb1 T) hr.dn T.kb .nil jr (jc (pv 2) jf)))
   (@jd _ _ _ (zo (PW.pt (jko (jw js0 (pv 1) (j9 (pv 0) rfl) (by with_unfolding_all rfl)) (je7 (jw jin (pv 2) (pv 1) (qf _))))) (@jd _ _ _ (jyv rfl T.jpf T.jkn (jj9 T) hr.dn T.jdq (jc (pv 1) jf))) qc)))),?_⟩
  refine ⟨_,rfl,W.x,W.dx,_,rfl,O.ob.1,qv,_,rfl,ρ,id,W,ω,p,rfl,O,hp.1,hp.2,?_⟩
  refine ⟨_,rfl,W.x,W.dx,_,rfl,O.ob.1,qv,_,rfl,ρ,id,W,ω,q,rfl,O,hq.1,hq.2,?_⟩
  refine ⟨_,rfl,_,rfl,W.x,_,W.dx,_,_,rfl,O.ob.1,T.ji,T.ya,jhi,W.ch,_,rfl,.inl (SqL.of O.ch.1),rfl,jda _,_,rfl,?_⟩
  refine jgn (fun z=>?_) (fun z=>?_)
  ·rw [if_neg (by decide),ur] at z
   refine jno ⟨_,rfl,zs1,fun ea hea=>⟨ea,_,rfl,ja,fun d hd=>?_⟩⟩
   obtain ⟨g1,g2,g3,g4⟩:=j57 (Y:=jpn ea t.xc d) (Z:=.xd [("purse",.int p)]) hea hd
   exact ⟨rfl,d,g2,gx (of_decide_eq_true z) d _ g3⟩
  ·rw [if_neg (by decide),ur] at z
   refine ⟨_,rfl,_,rfl,rfl,_,rfl,jgn (fun y=>?_) (fun _=>g fun y=>z (decide_eq_true y))⟩
   exact absurd (V.int.inj (of_decide_eq_true y)) nq
theorem jb0 (T:Txt K mg t) : yf P w K mg base CX0 5 t.ka t.g6 ["self","order"] (fun vs H Q _=>∃ ρ id W ω q o,vs = [.ref W.x,.ref q] ∧ qo t H ρ id W ω ∧ H q = some (.tup (jn9 o)) ∧ xk ω.n o = true ∧ Q .non H):=by
 refine T.jcz.ok jih (fun vs H Q E h=>?_) (fun cdv A outer s H vs Q E hr h=>?_)
 ·obtain ⟨ρ,id,W,ω,q,o,rfl,_⟩:=h
  rfl
 ·obtain ⟨ρ,id,W,ω,q,o,rfl,O,hq,ho,g⟩:=h
  refine ⟨_,(@jd _ _ _ (zo (yi (xb (jic (jkc T) hr.dn rfl T.jh7 T.jez.kp T.jgs jr (jc (pv 1) jf) (jdc (j9 (pv 0) rfl) job)))) qx qc)),?_⟩
  refine ⟨_,rfl,_,rfl,W.x,_,W.dx,_,_,rfl,O.ob.1,T.ji,T.vk,jl6,q,o,(ω.n:Int),rfl,hq,_,rfl,?_⟩
  rw [ho]
  exact pq g
theorem jhc (T:Txt K mg t) : yf P w K mg base CX0 3 t.jd4 t.jeg ["self"] (fun vs H Q _=>∃ ρ id W ω,vs = [.ref W.x] ∧ qo t H ρ id W ω ∧ ω.bd.length < 64 ∧ (ω.bd.map (·.1)).Nodup ∧ (∀ x ∈ ω.bd,x.1 ≠ []) ∧
  ∀ (r:Addr) (vs':List V) (ts':List (List Int)) (H':Hp),H r = none → wz H H' → ts'.Perm (yn ω.bd ω.en) → ts'.Pairwise (fun a b=>HT.lexLt a b = true) → Paired (jxr H') vs' ts' → H' r = some (.lst vs') → Q (.ref r) H'):=by
 refine T.ji7.ok jow (fun vs H Q E h=>?_) (fun cdv A outer s H vs Q E hr h=>?_)
 ·obtain ⟨ρ,id,W,ω,rfl,_⟩:=h
  rfl
 ·obtain ⟨ρ,id,W,ω,rfl,O,l,nd,ne,g⟩:=h
  refine ⟨_,(@jd _ _ _ (j4 (gr (j9 (pv 0) rfl) T.yj T.jf3 (jny T) hr.dn T.jhw .nil jr))),?_⟩
  obtain ⟨rb,rS,kvs,B,sg⟩:=O.bd
  have lk:kvs.length < 64:=by
   rw [Paired.length B.hs,thP,List.length_map]
   exact l
  exact ⟨_,rfl,W.x,_,W.dx,_,_,rfl,O.ob.1,T.ji,T.yy,jkt,W.bd,W.db,_,rfl,B.ob,jsx _ _ (by decide +kernel) (by decide +kernel),W.bd,W.db,W.S,ω.en,kvs,ω.bd,rfl,B,lk,nd,ne,g⟩
theorem jfl {K:W.Frag} {H:Hp} {ρ : Rho} : ∀ {xs:List V} {os:List O},Paired (zj H ρ) xs os → jhh K H xs (os.map vu)
 | _,_,.nil=>.nil
 | _,_,.cons ⟨a,e,_,h⟩ t=>.cons ⟨a,e,SqT.of h⟩ (jfl t)
theorem jef (T:Txt K mg t) : yf P w K mg base CX0 3 t.jfm t.jft ["self","house"] (fun vs H Q _=>∃ ρ id W ω h κ,vs = [.ref W.x,.int h] ∧ qo t H ρ id W ω ∧ ω.keep h = some κ ∧ κ.wait.length < 64 ∧ κ.wait.Nodup ∧
  ∀ (r:Addr) (vs':List V) (ts':List (List Int)),H r = none → ts'.Perm (κ.wait.map vu) → ts'.Pairwise (fun a b=>HT.lexLt a b = true) → jhh K H vs' ts' → Q (.ref r) (upd H r (.lst vs'))):=by
 refine T.jlf.ok jqe (fun vs H Q E h=>?_) (fun cdv A outer s H vs Q E hr h=>?_)
 ·obtain ⟨ρ,id,W,ω,h,κ,rfl,_⟩:=h
  rfl
 ·obtain ⟨ρ,id,W,ω,h,κ,rfl,O,e,l,nd,g⟩:=h
  refine ⟨_,(@jd _ _ _ (j4 (jt jsf rfl T.jk8 boot_sorted (jc (j9 (j6 (pv 0) T.ji T.zd (xp T) hr.dn T.zw .nil jr (jc (pv 1) jf)) rfl) jf)))),?_⟩
  refine ⟨_,rfl,W.x,W.dx,_,rfl,O.ob.1,qv,_,rfl,ρ,id,W,ω,h,κ,rfl,O,e,fun k A' dk R=>?_⟩
  obtain ⟨xs,hx,px⟩:=R.wt
  refine ⟨k,_,dk,_,_,rfl,R.ob,T.jm,T.za,(xi A').2.2.2.2.2.2,A' 7,xs,κ.wait.map vu,rfl,SqL.of hx,jfl px,by rw [Paired.length px]; exact l,List.Pairwise.map _ (fun a b hab z=>hab (jie z)) nd,fun t ht z=>?_,fun q vs' ts' nq _ p2 p3 p4=>g q vs' ts' nq p2 p4 p3⟩
  obtain ⟨o,_,rfl⟩:=List.mem_map.mp ht
  cases z
theorem jp0 (T:Txt K mg t) : yf P w K mg base CX0 6 t.jfn t.jf1 ["self","order","house"] (fun vs H Q _=>∃ ρ id W ω q o h κ,vs = [.ref W.x,.ref q,.int h] ∧ qo t H ρ id W ω ∧ OkR ρ H ∧ zj H ρ (.ref q) o ∧ xk ω.n o = true ∧ o.p ∈ ω.ja6 ∧ ω.keep h = some κ ∧ ω.way.length ≤ 100000 ∧
  ∀ H',qo t H' ρ id W { ω with way:=ω.way ++ [(true,h,o)] } → Fr (isP id .wy) ρ H ρ H' → OkR ρ H' → Q .non H'):=by
 refine T.jk1.ok jqb (fun vs H Q E h=>?_) (fun cdv A outer s H vs Q E hr h=>?_)
 ·obtain ⟨ρ,id,W,ω,q,o,h,κ,rfl,_⟩:=h
  rfl
 ·obtain ⟨ρ,id,W,ω,q,o,h,κ,rfl,O,kr,uq,ho,oc,ek,l,g⟩:=h
  refine ⟨_,(@jb _ _ _ _ _ (qe (j6 (pv 0) T.ji T.w4 (jb0 T) hr.dn T.kc .nil jr (jc (pv 1) jf)))
   (@jb _ _ _ _ _ (zo (jw jdp (jai ji2 (pv 1) jn (fun _ _=>rfl)) (j9 (pv 0) rfl) (by with_unfolding_all rfl)) qx qc)
   (@jb _ _ _ _ _ (qe (j6 (pv 0) T.ji T.zd (xp T) hr.dn T.zw .nil jr (jc (pv 2) jf)))
   (@jd _ _ _ (qe (jj0 PySem.F.plainAttrs_list PySem.F.slot_list_append PySem.F.type_list_append vq (j9 (pv 0) rfl) (jc (@jm0 _ _ _ _ _ (@jmy _ _ _ _ _ _ _ (zc (v:=.str "order") rfl T.jar.choose_spec ⟨_,rfl⟩) (pv 2) (pv 1) rfl rfl rfl)) jf))))))),?_⟩
  have uq':=uq
  obtain ⟨_,eq,nq,hq⟩:=uq'
  cases eq
  refine ⟨_,rfl,W.x,W.dx,_,rfl,O.ob.1,qv,_,rfl,ρ,id,W,ω,q,o,rfl,O,hq,ho,?_⟩
  refine ⟨_,rfl,q,jn9 o,0,.int o.p,rfl,rfl,SqT.of hq,rfl,_,rfl,W.x,_,W.dx,_,_,rfl,O.ob.1,T.ji,T.ya,jhi,W.ch,_,rfl,.inl (SqL.of O.ch.1),rfl,jda _,_,rfl,?_⟩
  rw [if_pos rfl,ur,decide_eq_true oc]
  refine pq ?_
  refine ⟨_,rfl,W.x,W.dx,_,rfl,O.ob.1,qv,_,rfl,ρ,id,W,ω,h,κ,rfl,O,ek,fun k A' dk R=>?_⟩
  obtain ⟨rw_,xs,hw,pw⟩:=O.wy
  refine ⟨_,rfl,W.x,_,W.dx,_,_,rfl,O.ob.1,T.ji,T.qq,jak,.inl ⟨rfl,_,SqL.of hw⟩,_,rfl,_,rfl,zs3,fun p np=>?_⟩
  have sp:=jg (o:=.tup [.str "order",.int h,.ref q]) np
  have lx:xs.length ≤ 1000000:=by rw [Paired.length pw]; omega
  refine ⟨W.wy,xs,.ref p,rfl,rfl,sp _ _ hw,big lx,?_⟩
  have O1:=O.fr (P:=fun _=>False) (fun _ z=>z) (Fr.same sp)
  have kr1:=kr.same sp
  have f2:Fr (isP id .wy) ρ (upd H p (.tup [.str "order",.int h,.ref q])) ρ (upd (upd H p (.tup [.str "order",.int h,.ref q])) W.wy (.lst (xs ++ [.ref p]))):=Fr.put rw_ rfl
  have f0:Fr (isP id .wy) ρ H ρ (upd H p (.tup [.str "order",.int h,.ref q])):=Fr.same sp
  refine g _ (O1.but f2 _ jv rfl rfl (ue f2 jv (fun _ _=>jv)) (jbf f2 jv jv jv) (jfp f2 jv (fun _=>jv)) (fun _ _=>⟨rw_,_,ja,?_⟩)) (f0.trans f2) kr1.put
  have np0:=kr.none np
  refine qy (Paired.pz pw fun _ _=>jmu.fr (f0.trans f2)) ⟨p,q,rfl,np0,?_,uq.fr (f0.trans f2)⟩
  rw [je (neu np0 rw_),ja]
  rfl
theorem jsp {α β : Type} {F : α → β → Prop} {xs:List α} {ys:List β} {j:Nat} (h:Paired F xs ys) : Paired F (xs.eraseIdx j) (ys.eraseIdx j):=jce h
structure KSz (κ : Kp) (m:Nat) : Prop where
 hd : κ.kl.length ≤ m
 uc : κ.unv.length + κ.cho.length ≤ m
 dw : κ.done.length + κ.wait.length ≤ m
theorem jrt (T:Txt K mg t) : yf P w K mg base CX0 8 t.jg0 t.jg9 ["self","at"] (fun vs H Q _=>∃ ρ id W ω i l κ a b c,vs = [.ref W.x,.int (i:Nat)] ∧ qo t H ρ id W ω ∧ OkR ρ H ∧ ω.way[i]? = some l ∧ ω.keep l.2.1 = some κ ∧ (ω.ks.map (·.1)).Nodup ∧ κ.Ok ω.n ∧ ω.n ≤ 8 ∧ xk ω.n l.2.2 = true ∧ KSz κ 900 ∧ Sz ω a b c ∧ a + (κ.take l.1 l.2.2).2.length ≤ 1000 ∧ b + (κ.take l.1 l.2.2).2.length ≤ 1000 ∧ c + 16 * (κ.take l.1 l.2.2).2.length ≤ 100000 ∧
  ∀ ρ' H' x,qo t H' ρ' id W (ω.j3n i l κ) → Fr (fun r=>r.1 = id) ρ H ρ' H' → OkR ρ' H' → jmu H' ρ' x l → Q x H'):=by
 refine T.jnk.ok wa (fun vs H Q E h=>?_) (fun cdv A outer s H vs Q E hr h=>?_)
 ·obtain ⟨ρ,id,W,ω,i,l,κ,a,b,c,rfl,_⟩:=h
  rfl
 ·obtain ⟨ρ,id,W,ω,i,l,κ,a,b,c,rfl,O,kr,el,ek,nd,hok,n8,ho,ksz,sz,la,lb,lc,g⟩:=h
  refine ⟨_,(@jb _ _ _ _ _ (zo (yi (xb (jq (qp T) hr.dn rfl T.qr T.ql.kp T.qt .nil jr (@jmy _ _ _ _ _ _ _ (pv 1) jn (xn jlm (jt jz rfl T.jeo boot_len (jc (j9 (pv 0) rfl) jf)) jn) rfl rfl rfl)))) qx qc)
   (@jb _ _ _ _ _ (j8 (i:=2) wa.nd rfl (Or.inl rfl) (jj0 PySem.F.plainAttrs_list PySem.F.slot_list_pop PySem.F.type_list_pop j0a (j9 (pv 0) rfl) (jc (pv 1) jf)))
   (@jb _ _ _ _ _ (jm8 (pv 2) (jpc rfl (j7 (ju (i:=3) wa.nd rfl (Or.inl rfl)) (j7 (ju (i:=4) wa.nd rfl (Or.inl rfl)) (j7 (ju (i:=5) wa.nd rfl (Or.inl rfl)) jj6)))))
   (@jb _ _ _ _ _ (j8 (i:=6) wa.nd rfl (Or.inl rfl) (jx8 (jol hr) (j9 (pv 0) rfl) (pv 4) (fun _ _=>rfl)))
   (@jb _ _ _ _ _ (zo (jw jin (pv 3) (zc (v:=.str "order") rfl T.jar.choose_spec ⟨_,rfl⟩) (qf _)) (@jd _ _ _ (qe (j6 (pv 0) T.ji T.y0 (uv T) hr.dn T.v9 .nil jr (@v8 _ _ _ _ _ (pv 4) (j6 (pv 6) T.jm T.jit (jqg T) hr.dn T.jlo .nil jr (jc (pv 5) jf)) rfl rfl)))) (@jd _ _ _ (qe (j6 (pv 0) T.ji T.y0 (uv T) hr.dn T.v9 .nil jr (@v8 _ _ _ _ _ (pv 4) (j6 (pv 6) T.jm T.jbw (jig T) hr.dn T.jdl .nil jr (jc (pv 5) jf)) rfl rfl)))))
   (@jd _ _ _ (j4 (pv 2)))))))),?_⟩
  obtain ⟨rw_,xs,hw,pw⟩:=O.wy
  have lx:xs.length = ω.way.length:=Paired.length pw
  have hi:=(List.getElem?_eq_some_iff.mp el).1
  have wl:=sz.wy
  refine ⟨_,rfl,_,rfl,W.x,_,W.dx,_,_,rfl,O.ob.1,T.ji,T.qq,jak,W.wy,xs,rfl,.inl (SqL.of hw),_,_,rfl,rfl,(i:Int),0,(xs.length:Int) - 1,rfl,_,rfl,?_⟩
  rw [decide_eq_true (show 0 ≤ (i:Int) ∧ (i:Int) ≤ (xs.length:Int) - 1 by omega)]
  refine pq ?_
  obtain ⟨x,ex,ux⟩:=jdi pw el
  refine ⟨_,rfl,W.x,_,W.dx,_,_,rfl,O.ob.1,T.ji,T.qq,jak,.inl ⟨rfl,_,SqL.of hw⟩,_,rfl,W.wy,xs,(i:Int),i,x,rfl,rfl,hw,by omega,by omega,?_,ex,?_⟩
  ·unfold seqIndex?
   simp
   omega
  have f1:Fr (isP id .wy) ρ H ρ (upd H W.wy (.lst (xs.eraseIdx i))):=Fr.put rw_ rfl
  have O1:qo t (upd H W.wy (.lst (xs.eraseIdx i))) ρ id W { ω with way:=ω.way.eraseIdx i }:=O.but f1 _ jv rfl rfl (ue f1 jv (fun _ _=>jv)) (jbf f1 jv jv jv) (jfp f1 jv (fun _=>jv)) (fun _ _=>⟨rw_,_,ja,jsp (Paired.pz pw fun _ _=>jmu.fr f1)⟩)
  have kr1:=kr.put (a:=W.wy) (o:=.lst (xs.eraseIdx i))
  have ux1:=ux.fr f1
  generalize upd H W.wy (.lst (xs.eraseIdx i)) = H1 at f1 O1 kr1 ux1
  obtain ⟨la',q,rfl,nl,hl,uq⟩:=ux1
  refine ⟨_,rfl,la',_,rfl,SqT.of hl,rfl,_,_,rfl,_,_,rfl,_,_,rfl,rfl,?_⟩
  obtain ⟨rk,kvs,hk,ks⟩:=O1.kd
  obtain ⟨k,A',dk,ev,R⟩:=jon ks ek
  refine ⟨_,rfl,W.x,_,W.dx,_,_,rfl,O1.ob.1,T.ji,T.ze,jcx,_,rfl,W.kd,.ref k,rfl,.inl ⟨kvs,.inl l.2.1,.inl hk,rfl,ev.symm⟩,?_⟩
  obtain ⟨wb,h,o⟩:=l
  cases wb with
  | true=>
   refine ⟨_,rfl,rfl,_,rfl,jno ?_⟩
   refine ⟨_,rfl,W.x,W.dx,_,rfl,O1.ob.1,qv,_,rfl,_,rfl,k,dk,_,rfl,R.ob,jc7 A',_,rfl,ρ,id,h,k,A',dk,κ,ω.n,q,o,rfl,R,uq,hok,n8,ho,ksz.hd,ksz.uc,ksz.dw,kr1,fun ρ2 H2 A2 r ys R2 f2 kr2 rr hr2 pr=>?_⟩
   have O2:=O1.j1t f2 nd (fun kvs' hk'=>by rw [hk] at hk'; cases hk'; exact ev) R2
   have z2:Sz { { ω with way:=ω.way.eraseIdx i } with ks:=jnt ω.ks h (Kp.j1j κ o).1 } a b c:=⟨sz.bd,sz.hs,Nat.le_trans (List.length_eraseIdx_le _ _) sz.wy,by show (jnt _ _ _).length ≤ 16; rw [jh8]; exact sz.ks⟩
   refine ⟨ρ2,id,W,_,h,r,ys,(Kp.j1j κ o).2,a,b,c,rfl,O2,kr2,hr2,fun ro e=>?_,pr,z2,la,lb,lc,fun ρ3 H3 O3 f3 kr3=>?_⟩
   ·rw [rr] at e
    cases e
    exact ju0 (by intro z; cases z) (by intro z; cases z) (by intro z; cases z)
   ·have fr:Fr (fun r=>r.1 = id) ρ H ρ3 H3:=((f1.mono fun r hr=>by rw [hr]).trans (f2.mono fun r ⟨j,hr⟩=>by rw [hr])).trans (f3.mono fun r hr=>by rcases hr with hr | hr | hr <;> rw [hr])
    exact ⟨_,rfl,g ρ3 H3 _ O3 fr kr3 (jmu.fr fr ux)⟩
  | false=>
   refine ⟨_,rfl,rfl,_,rfl,pq ?_⟩
   refine ⟨_,rfl,W.x,W.dx,_,rfl,O1.ob.1,qv,_,rfl,_,rfl,k,dk,_,rfl,R.ob,jc7 A',_,rfl,ρ,id,h,k,A',dk,κ,ω.n,q,o,rfl,R,uq,hok,n8,ho,ksz.hd,ksz.uc,ksz.dw,kr1,fun ρ2 H2 A2 r ys R2 f2 kr2 rr hr2 pr=>?_⟩
   have O2:=O1.j1t f2 nd (fun kvs' hk'=>by rw [hk] at hk'; cases hk'; exact ev) R2
   have z2:Sz { { ω with way:=ω.way.eraseIdx i } with ks:=jnt ω.ks h (Kp.jp1 κ o).1 } a b c:=⟨sz.bd,sz.hs,Nat.le_trans (List.length_eraseIdx_le _ _) sz.wy,by show (jnt _ _ _).length ≤ 16; rw [jh8]; exact sz.ks⟩
   refine ⟨ρ2,id,W,_,h,r,ys,(Kp.jp1 κ o).2,a,b,c,rfl,O2,kr2,hr2,fun ro e=>?_,pr,z2,la,lb,lc,fun ρ3 H3 O3 f3 kr3=>?_⟩
   ·rw [rr] at e
    cases e
    exact ju0 (by intro z; cases z) (by intro z; cases z) (by intro z; cases z)
   ·have fr:Fr (fun r=>r.1 = id) ρ H ρ3 H3:=((f1.mono fun r hr=>by rw [hr]).trans (f2.mono fun r ⟨j,hr⟩=>by rw [hr])).trans (f3.mono fun r hr=>by rcases hr with hr | hr | hr <;> rw [hr])
    exact ⟨_,rfl,g ρ3 H3 _ O3 fr kr3 (jmu.fr fr ux)⟩
def Kp.jqx (κ : Kp) (p:Int) (os:List O) : Int:=gI κ.held p - ((os.filter fun o=>!κ.past o).map fun o=>o.m).sum
theorem jms (T:Txt K mg t) : yf P w K mg base CX0 2 t.jbo t.jbg ["self","purse","orders"] (fun vs H Q _=>∃ ρ id h k A dk κ n p r xs os,vs = [.ref k,.int p,.ref r] ∧ xj t H ρ id h k A dk κ ∧ κ.Ok n ∧ 0 ≤ p ∧ p < (n:Int) ∧ H r = some (.lst xs) ∧ Paired (zj H ρ) xs os ∧ (∀ o ∈ os,xk (n:Nat) o = true) ∧ os.length ≤ 1000 ∧ ∀ H',wz H H' → Q (.int (κ.jqx p os)) H'):=by
 refine T.jf6.ok jmt (fun vs H Q E h=>?_) (fun cdv A outer s H vs Q E hr h=>?_)
 ·obtain ⟨ρ,id,h,k,A,dk,κ,n,p,r,xs,os,rfl,_⟩:=h
  rfl
 ·obtain ⟨ρ,id,h,k,A',dk,κ,n,p,r,xs,os,rfl,R,hok,p0,p1,hx,px,ho,ll,g⟩:=h
  refine ⟨_,(@jd _ _ _ (j4 (xn jlm (jai gc (j9 (pv 0) rfl) (pv 1) (fun _ _=>rfl)) (jt (jvw rfl) rfl T.j1v boot_sum (jc (jd0 (N':=["order","self"]) (ix:=[none,some 0]) (gh (by kernel_rfl)) rfl (@jbh _ _ _ _ (pv 2)) (fun _ _ _ _=>(ju (i:=0) j7u rfl (Or.inl rfl) (.inr rfl))) (fun _ _ _ _=>(jl4 (yi (xb (j6 (pv 1) T.jm T.vz (jcs T) hr.dn T.jau .nil jr (jc (pv 0) jf)))))) (fun _ _ _ _=>(jai (jxn (K:=K) rfl) (pv 0) jn (fun _ _=>rfl)))) jf))))),?_⟩
  have e:=jwc (xs:=κ.held) p0 (by rw [hok.h]; exact p1)
  refine ⟨_,rfl,k,_,dk,_,_,rfl,R.ob,T.jm,T.xu,(xi A').1,_,rfl,A' 1,_,p,.int (gI κ.held p),rfl,rfl,SqL.of R.he,jhn p0 (by rw [List.getElem?_map,e]; rfl),?_⟩
  refine ⟨_,rfl,r,rfl,⟨_,SqL.of hx⟩,jpk (K:=K) (a:=r) (xs:=xs) (fun i ys σ H'=>∃ v,σ = [v,some (.ref k)] ∧ H' = H ∧ ys = (((os.take i).filter fun o=>!κ.past o).map fun o=>o.m).map V.int) ⟨none,rfl,rfl,rfl⟩ ?_ ?_ ?_⟩
  ·rintro i ys σ H' hi ⟨v,rfl,rfl,rfl⟩
   refine ⟨SqL.of hx,jmm ?_⟩
   rw [List.length_map,List.length_map]
   refine Nat.le_trans (List.length_filter_le _ _) ?_
   rw [List.length_take]
   omega
  ·rintro i x ys σ H' ex ⟨v,rfl,rfl,rfl⟩
   obtain ⟨o,eo,uo⟩:=qi px ex
   obtain ⟨q,rfl,hq⟩:=uo.ref
   have om:o ∈ os:=List.mem_of_getElem? eo
   refine ⟨_,rfl,k,dk,_,rfl,R.ob,jc7 A',_,rfl,ρ,id,h,k,A',dk,κ,n,q,o,rfl,R,hq,ho o om,hok.x,_,rfl,?_⟩
   rw [take_snoc eo,List.filter_append,List.map_append,List.map_append]
   cases hp : κ.past o with
   | true=>
    refine pq ⟨_,rfl,rfl,?_⟩
    simp [hp]
   | false=>
    refine jno ⟨_,rfl,q,jn9 o,3,.int o.m,rfl,rfl,SqT.of hq,rfl,_,rfl,rfl,?_⟩
    simp [hp]
  ·rintro ys σ H' ⟨v,rfl,rfl,rfl⟩ l nl
   rw [Paired.length px,List.take_length]
   refine ⟨l,_,rfl,SqL.of ja,_,_,rfl,rfl,g _ (jg nl)⟩
def Wd.carried (ω : Wd) (o:O) : Bool:=decide (ω.en ≤ ((jx ω.bd (vu o)).length:Int))
theorem j4v {ns:List Int} {M:Int} (h1:M ∈ ns) (h2 : ∀ a ∈ ns,a ≤ M) : ns.max? = some M:=List.max?_eq_some_iff.mpr ⟨h1,h2⟩
def Wd.asks (ω : Wd) (o:O) (row:List O) : Wd:=Wd.post { ω with asked:=ω.asked.set o.p.toNat (row ++ [o]) } true o
theorem j6p {a:Addr} {o:Obj} {kvs:List (Key × V)} {g:TG} {ti:TT} {te:TE} {σ0:St} {H0:Hp} {Q:VK} (Pv:Nat → List V → St → Hp → Prop) (h0:Pv 0 [] σ0 H0)
    (hl : ∀ i ys σ H,i ≤ kvs.length → Pv i ys σ H → H a = some (.frz o (.dK kvs)) ∧ ys.length ≤ sizeLine)
    (hs : ∀ i kv ys σ H,kvs[i]? = some kv → Pv i ys σ H → g kv.2 σ H fun σ2 H2=>ti σ2 H2 fun c H3=>if c = true then te σ2 H3 fun y H4=>Pv (i + 1) (ys ++ [y]) σ2 H4 else Pv (i + 1) ys σ2 H3)
    (hd : ∀ ys σ H,Pv kvs.length ys σ H → ∀ p,H p = none → Q (.ref p) (upd H p (.lst ys))) :
    ∃ W : Nat → Nat → List V → St → Hp → Prop,(∃ m,W 0 m [] σ0 H0) ∧ ∀ i m ys σ H,W i m ys σ H →
      ys.length ≤ sizeLine ∧ (((Itv a o kvs).stop i H ∧ jx2 Q ys H) ∨
        ((Itv a o kvs).go i H ∧ ∃ N:List V → St → Hp → Prop,(∀ ys' σ' H',N ys' σ' H' → ∃ m',m' < m ∧ W (i + 1) m' ys' σ' H') ∧
          ∀ x H',(Itv a o kvs).yld i H x H' → g x σ H' fun σ2 H2=>ti σ2 H2 fun b H3=>if b = true then te σ2 H3 fun y H4=>N (ys ++ [y]) σ2 H4 else N ys σ2 H3)):=by
  refine ⟨fun i m ys σ H=>m = kvs.length - i ∧ i ≤ kvs.length ∧ Pv i ys σ H,⟨kvs.length,by simp,Nat.zero_le _,h0⟩,?_⟩
  rintro i m ys σ H ⟨rfl,hi,p⟩
  obtain ⟨q,hz⟩:=hl i ys σ H hi p
  refine ⟨hz,?_⟩
  by_cases hlt:i < kvs.length
  · refine .inr ⟨⟨hlt,q⟩,Pv (i + 1),fun ys' σ' H' p'=>⟨kvs.length - (i + 1),by omega,rfl,hlt,p'⟩,fun x H' y=>?_⟩
    obtain ⟨e,kv,ek,ex⟩:=y
    subst e ex
    exact hs i kv ys σ _ ek p
  · have e:i = kvs.length:=by omega
    subst e
    exact .inl ⟨⟨Nat.le_refl _,q⟩,hd ys σ H p⟩
theorem j11 {H:Hp} {ρ : Rho} {xs:List V} {os:List O} {o:O} (p:Paired (zj H ρ) xs os) (e:os.getLast? = some o) : ∃ x,atI xs (-1) = some x ∧ zj H ρ x o:=by
 rw [List.getLast?_eq_getElem?] at e
 obtain ⟨x,ex,u⟩:=jdi p e
 have l:=Paired.length p
 have lt:=(List.getElem?_eq_some_iff.mp e).1
 refine ⟨x,?_,u⟩
 unfold atI ixN
 rw [if_neg (by decide),if_pos (by omega)]
 show xs[(-1 + (xs.length:Int)).toNat]? = some x
 rw [show (-1 + (xs.length:Int)).toNat = os.length - 1 by omega]
 exact ex
structure Wd.Ok (ω : Wd) : Prop where
 n8 : ω.n ≤ 8
 al : ω.asked.length = ω.n
 ao : ∀ row ∈ ω.asked,(∀ o ∈ row,xk ω.n o = true)
 ks : ∀ c ∈ ω.ks,c.2.Ok ω.n
 nd:(ω.ks.map (·.1)).Nodup
 k0 : 0 < ω.ks.length
 k1 : ω.ks.length ≤ 16
def j5g (t:Ad) : Sp:=fun vs H Q E=>∃ ρ id W ω p g m row,vs = [.ref W.x,.int p,.int g,.int m] ∧ qo t H ρ id W ω ∧ OkR ρ H ∧ ω.Ok ∧ (0 ≤ p ∧ p < (ω.n:Int)) ∧ (0 ≤ g ∧ g < (ω.n:Int)) ∧ g ≠ p ∧ (1 ≤ m ∧ m ≤ 1000) ∧ ω.asked[p.toNat]? = some row ∧ row.length ≤ 90 ∧ ω.way.length ≤ 90000 ∧ (p ∈ ω.ja6 → ∀ d H',wz H H' → E (.ref t.xc) (some d) H') ∧
  (∀ o,row.getLast? = some o → ω.carried o = false → ∀ H',wz H H' → E (.ref t.p9) none H') ∧
  ((∀ o,row.getLast? = some o → ω.carried o = true) → ∀ M,(ω.ks.map fun c=>c.2.jqx p row).max? = some M →
    (M < m → ∀ H',wz H H' → E (.ref t.vb) none H') ∧
    (m ≤ M → ∀ H' q,qo t H' ρ id W (ω.asks ⟨p,row.length,g,m⟩ row) → Fr (fun r=>r.1 = id) ρ H ρ H' → OkR ρ H' → zj H' ρ (.ref q) ⟨p,row.length,g,m⟩ → Q (.ref q) H'))
set_option maxHeartbeats 0 in
theorem jnf (T:Txt K mg t) : yf P w K mg base (CX2 P w) 6 t.jje t.jjm ["self","purse","goal","much"] (j5g t):=by
  refine T.joi.okY jg5 (fun vs H Q E h=>?_) (fun cdv A outer s H vs Q E hr h=>?_)
  · obtain ⟨ρ,id,W,ω,p,g,m,row,rfl,_⟩:=h
    rfl
  · obtain ⟨ρ,id,W,ω,p,g,m,row,rfl,O,kr,hok,hp,hg,ng,hm,erow,lrow,lway,e0,e1,e2⟩:=h
    refine ⟨_,(@jb _ _ _ _ _ (qe (j6 (pv 0) T.ji T.jb3 (jij T) hr.dn T.jcn .nil j6f (@v8 _ _ _ _ _ (pv 1) (pv 2) rfl rfl)))
      (@jb _ _ _ _ _ (zo (yi (xb (jq (qp T) hr.dn rfl T.qr T.ql.kp T.qt .nil jr (@jmy _ _ _ _ _ _ _ (pv 3) jn (zc (v:=.int 1000) rfl T.jkg.choose_spec ⟨_,rfl⟩) rfl rfl rfl)))) qx qc)
      (@jb _ _ _ _ _ (j8 (i:=4) jg5.nd rfl (Or.inr rfl) (jai gc (j9 (pv 0) rfl) (pv 1) (fun _ _=>rfl)))
      (@jb _ _ _ _ _ (zo (PW.pt (jko (jw jxt (jt jz rfl T.jeo boot_len (jc (pv 4) jf)) (zc (v:=.int 99) rfl T.jfz.choose_spec ⟨_,rfl⟩) (qf _)) (je7 (PW.pt (jiy (jzr (pv 4) (fun _=>rfl)) (jfr (yi (xb (j6 (j9 (pv 0) rfl) T.yj T.yl (ko T) hr.dn T.y3 .nil jr (jc (jai gc (pv 4) (j6y j5b jn) (fun _ _=>rfl)) jf)))))))))) (@jd _ _ _ (jtd rfl T.jrq T.jvp (jc wg jf))) qc)
      (@jb _ _ _ _ _ (zo (jw jxt (pv 3) (jt (jxv rfl) rfl T.j4w boot_max (jc (jw2 (jd0 (N':=["keeper","purse","asked"]) (ix:=[none,some 1,some 4]) (gh (by kernel_rfl)) rfl (j6v (j5i PySem.F.plainAttrs_dict PySem.F.slot_dict_values PySem.F.type_dict_values jx5 (j9 (pv 0) rfl))) (fun _ _ _ _=>(ju (i:=0) j7v rfl (Or.inl rfl) (.inr rfl))) (fun _ _ _ _=>jrl) (fun _ _ _ _=>(j6 (pv 0) T.jm T.jet (jms T) hr.dn T.jge .nil jr (@v8 _ _ _ _ _ (pv 1) (pv 2) rfl rfl))))) jf)) (qf _)) (@jd _ _ _ (jtd rfl T.joy T.jsc (jc wg jf))) qc)
      (@jb _ _ _ _ _ (@j8 _ _ 5 _ _ _ _ jg5.nd rfl (Or.inl rfl) (@jm0 _ _ _ _ _ (@j7a _ _ _ _ _ _ _ _ _ (pv 1) (jt jz rfl T.jeo boot_len (jc (pv 4) jf)) (pv 2) (pv 3) rfl rfl rfl rfl)) (by rfl) (by first | exact .inl rfl | exact .inr rfl))
      (@jb _ _ _ _ _ (qe (jj0 PySem.F.plainAttrs_list PySem.F.slot_list_append PySem.F.type_list_append vq (pv 4) (jc (pv 5) jf)))
      (@jb _ _ _ _ _ (qe (j6 (pv 0) T.ji T.vp (ja8 T) hr.dn T.wu .nil jr (@v8 _ _ _ _ _ (zc (v:=.str "order") rfl T.jar.choose_spec ⟨_,rfl⟩) (pv 5) rfl rfl)))
      (@jd _ _ _ (j4 (pv 5))))))))))),?_⟩
    obtain ⟨ra,rs,ha,hrows⟩:=O.ak
    obtain ⟨r,er⟩ : ∃ r,rs[p.toNat]? = some r:=⟨_,List.getElem?_eq_getElem (by rw [hrows.1]; exact (List.getElem?_eq_some_iff.mp erow).1)⟩
    obtain ⟨rr,xs,hr0,px⟩:=hrows.2 _ _ _ er erow
    obtain ⟨rk,kvs,kdH,ksH⟩:=O.kd
    have lk:kvs.length = ω.ks.length:=Paired.length ksH
    have lx:xs.length = row.length:=Paired.length px
    refine jkx fun N hN=>⟨_,rfl,W.x,W.dx,_,rfl,O.ob.1,qv,_,rfl,_,rfl,ρ,id,W,ω,p,g,rfl,O,hp,hg,ng,e0,fun nc=>?_⟩
    refine hN _ _ (jkx fun N hN=>⟨_,rfl,m,1,1000,rfl,_,rfl,?_⟩)
    rw [decide_eq_true hm]
    refine pq ?_
    refine hN _ _ (jkx fun N hN=>⟨_,rfl,W.x,_,W.dx,_,_,rfl,O.ob.1,T.ji,T.jas,jtx,_,rfl,W.ak,_,p,.ref r,rfl,rfl,SqL.of ha,jhn hp.1 (by rw [List.getElem?_map,er]; rfl),?_⟩)
    refine hN [some (.ref W.x),some (.int p),some (.int g),some (.int m),some (.ref r),none] _ (jkx fun N hN=>⟨_,rfl,r,xs,rfl,.inl (SqL.of hr0),_,_,rfl,rfl,_,rfl,jgn (fun z=>absurd (of_decide_eq_true z) (by show ¬ (99:Int) < (xs.length:Int); omega)) (fun _=>?_)⟩)
    refine' (fun key=>_:(∀ HC,wz H HC → (∀ o,row.getLast? = some o → ω.carried o = true) → (_:Hp → Prop) HC) → _) _
    rotate_left
    · cases hlast:row.getLast?
      case some o=>
        obtain ⟨x,ex,ux⟩:=j11 px hlast
        have x0:(!xs.isEmpty) = true:=by
          cases xs with
          | nil=>cases ex
          | cons _ _=>rfl
        refine ⟨_,rfl,true,.inl ⟨_,SqL.of hr0,x0.symm⟩,jno ?_⟩
        obtain ⟨q0,rfl,hq0⟩:=ux.ref
        obtain ⟨rb,rS,bvs,B,sg⟩:=O.bd
        refine ⟨_,rfl,W.x,_,W.dx,_,_,rfl,O.ob.1,T.ji,T.yy,jkt,W.bd,W.db,_,rfl,B.ob,jsx _ _ (by decide +kernel) (by decide +kernel),_,rfl,_,rfl,r,xs,-1,.ref q0,rfl,rfl,SqL.of hr0,ex,W.bd,W.db,W.S,ω.en,bvs,thP ω.bd,q0,jn4 o,rfl,B.rd,hq0,fun HC sHC=>⟨_,rfl,?_⟩⟩
        have ec:decide (ω.en ≤ ((qj (thP ω.bd) (jn4 o)).length:Int)) = ω.carried o:=by
          unfold Wd.carried
          rw [show qj (thP ω.bd) (jn4 o) = jx ω.bd (vu o) from jep (vu o) ω.bd]
        rw [ec]
        cases hc : ω.carried o with
        | false=>exact jno ⟨zs1,e1 o hlast hc _ sHC⟩
        | true=>
          refine pq ?_
          have carr : ∀ o',row.getLast? = some o' → ω.carried o' = true:=fun o' e=>by rw [hlast] at e; cases e; exact hc
          exact key HC sHC carr
      case none=>
        have e0:row = []:=List.getLast?_eq_none_iff.mp hlast
        have x0:xs = []:=List.length_eq_zero_iff.mp (by rw [lx,e0]; rfl)
        refine ⟨_,rfl,false,.inl ⟨_,SqL.of hr0,by rw [x0]; rfl⟩,pq ?_⟩
        have carr : ∀ o,row.getLast? = some o → ω.carried o = true:=fun o e=>by rw [hlast] at e; cases e
        exact key H (wz.refl _) carr
    · rintro HC sHC carr
      have OC:=O.fr (P:=fun _=>False) (fun _ z=>z) (Fr.same sHC)
      have kd:=sHC _ _ kdH
      have ksR:yr t HC ρ id kvs ω.ks:=yr.fr (P:=fun _=>False) (Fr.same sHC) (fun _ _ z=>z) ksH
      have hrC:=sHC _ _ hr0
      have pxC:Paired (zj HC ρ) xs row:=Paired.pz px fun _ _=>zj.fr (P:=fun _=>False) (Fr.same sHC)
      refine hN _ _ (jkx fun N hN=>⟨_,rfl,_,rfl,W.x,_,W.dx,_,_,rfl,OC.ob.1,T.ji,T.ze,jcx,.inr (.inr (.inl ⟨rfl,.inl ⟨_,kd⟩⟩)),W.kd,kvs,rfl,rfl,kd,fun vw hvw=>?_⟩)
      have sv:=jg (o:=jqc vw W.kd) hvw
      have kd1:=sv _ _ kd
      have ks1:yr t (upd HC vw (jqc vw W.kd)) ρ id kvs ω.ks:=yr.fr (P:=fun _=>False) (Fr.same sv) (fun _ _ z=>z) ksR
      have hr1:=sv _ _ hrC
      have px1:Paired (zj (upd HC vw (jqc vw W.kd)) ρ) xs row:=Paired.pz pxC fun _ _=>zj.fr (P:=fun _=>False) (Fr.same sv)
      have gv:upd HC vw (jqc vw W.kd) vw = some (jqc vw W.kd):=ja
      generalize upd HC vw (jqc vw W.kd) = H1 at sv kd1 ks1 gv hr1 px1
      refine ⟨vw,W.kd,kvs,rfl,gv,kd1,fun oo=>j6p (fun i' ys σ H'=>∃ v0,σ = [v0,some (.int p),some (.ref r)] ∧ wz (upd H1 W.kd (.frz oo (.dK kvs))) H' ∧ ys = ((ω.ks.take i').map fun c=>c.2.jqx p row).map V.int) ⟨none,rfl,wz.refl _,rfl⟩ ?_ ?_ ?_⟩
      · rintro i' ys σ H' hi ⟨v0,rfl,sm,rfl⟩
        refine ⟨sm _ _ ja,jmm ?_⟩
        rw [List.length_map,List.length_map,List.length_take]
        have:=hok.k1
        omega
      · rintro i' kv ys σ H' ek ⟨v0,rfl,sm,rfl⟩
        obtain ⟨c,ec,e1,kk,A',dk,e2,R⟩:=qi ks1 ek
        have cm:c ∈ ω.ks:=List.mem_of_getElem? ec
        rw [e2]
        have fz:Fr (isP id .kd) ρ H1 ρ H':=(Fr.put rk rfl:Fr (isP id .kd) ρ H1 ρ (upd H1 W.kd (.frz oo (.dK kvs)))).trans (Fr.same sm)
        have R':=R.fr (fun f=>jv) fz
        have hr2:=(jej fz hr1 rr jv).1
        have px2:Paired (zj H' ρ) xs row:=Paired.pz px1 fun _ _=>zj.fr fz
        dsimp only [jom,j39]
        rw [if_pos rfl]
        refine ⟨_,rfl,kk,dk,_,rfl,R'.ob,jc7 A',_,rfl,_,rfl,ρ,id,c.1,kk,A',dk,c.2,ω.n,p,r,xs,row,rfl,R',hok.ks c cm,hp.1,hp.2,hr2,px2,hok.ao row (List.mem_of_getElem? erow),by omega,fun H'' s''=>⟨_,rfl,sm.trans s'',?_⟩⟩
        rw [take_snoc ec,List.map_append,List.map_append]
        rfl
      · rintro ys σ H' ⟨v0,rfl,sm,rfl⟩ L nL
        rw [lk,List.take_length]
        have hD':=sm _ _ (ja (H:=H1) (a:=W.kd) (o:=.frz oo (.dK kvs)))
        have LD:L ≠ W.kd:=(jk hD' nL).symm
        have SF:wz HC (upd (upd H' L (.lst ((ω.ks.map fun c=>c.2.jqx p row).map V.int))) W.kd (.dK kvs)):=fun c u hc=>by
          have h1:=sv _ _ hc
          by_cases z:c = W.kd
          · subst z
            rw [kd1] at h1
            rw [ja,h1]
          · have hc':H' c = some u:=sm _ _ (by rw [je z]; exact h1)
            rw [je z,je (jk hc' nL)]
            exact hc'
        refine ⟨W.kd,oo,.dK kvs,(by rw [je LD.symm]; exact hD'),fun o' u' z=>?_,True.intro,L,ω.ks.map fun c=>c.2.jqx p row,rfl,SqL.of (by rw [je LD]; exact ja),(by rw [List.length_map]; exact hok.k0),fun M hM hA=>?_⟩
        · have z':H W.kd = some (.frz o' u'):=z
          rw [kdH] at z'
          cases z'
        obtain ⟨eM,qM⟩:=e2 carr M (j4v hM hA)
        refine ⟨_,_,rfl,rfl,_,rfl,jgn (fun z=>?_) (fun z=>?_)⟩
        · exact ⟨zs1,eM (of_decide_eq_true z) _ (sHC.trans SF)⟩
        · have z' : m ≤ M:=by
            have : ¬ M < m:=fun y=>z (decide_eq_true y)
            omega
          have sG:=sHC.trans SF
          generalize upd (upd H' L (.lst ((ω.ks.map fun c=>c.2.jqx p row).map V.int))) W.kd (.dK kvs) = G at SF sG
          have OG:=O.fr (P:=fun _=>False) (fun _ z=>z) (Fr.same sG)
          have krG:=kr.same sG
          have hrG:=sG _ _ hr0
          have pxG:Paired (zj G ρ) xs row:=Paired.pz px fun _ _=>zj.fr (P:=fun _=>False) (Fr.same sG)
          refine hN _ _ (jkx fun N hN=>⟨_,rfl,_,rfl,r,xs,rfl,.inl (SqL.of hrG),_,rfl,_,rfl,zs4,fun q nq=>?_⟩)
          have eo : [V.int p,.int xs.length,.int g,.int m] = jn9 ⟨p,row.length,g,m⟩:=by rw [lx]; rfl
          rw [eo]
          have s1:=jg (o:=.tup (jn9 ⟨p,row.length,g,m⟩)) nq
          have O1:=OG.fr (P:=fun _=>False) (fun _ z=>z) (Fr.same s1)
          have kr1:=krG.same s1
          have hr1':=s1 _ _ hrG
          have px1':Paired (zj (upd G q (.tup (jn9 ⟨p,row.length,g,m⟩))) ρ) xs row:=Paired.pz pxG fun _ _=>zj.fr (P:=fun _=>False) (Fr.same s1)
          have uq1:zj (upd G q (.tup (jn9 ⟨p,row.length,g,m⟩))) ρ (.ref q) ⟨p,row.length,g,m⟩:=⟨q,rfl,krG.none nq,ja⟩
          dsimp only
          generalize upd G q (.tup (jn9 ⟨p,row.length,g,m⟩)) = G1 at s1 O1 kr1 hr1' px1' uq1
          refine hN _ _ (jkx fun N hN=>⟨_,rfl,.inl ⟨rfl,_,SqL.of hr1'⟩,_,rfl,r,xs,.ref q,rfl,rfl,hr1',xt (by omega),?_⟩)
          have f2:Fr (isP id (.row p.toNat)) ρ G1 ρ (upd G1 r (.lst (xs ++ [.ref q]))):=Fr.put rr rfl
          have O2 : qo t (upd G1 r (.lst (xs ++ [.ref q]))) ρ id W { ω with asked:=ω.asked.set p.toNat (row ++ [⟨p,row.length,g,m⟩]) }:=by
            refine O1.but f2 _ jv rfl rfl (ue f2 jv (fun _ _=>jv)) (jbf f2 jv jv jv) (fun ra' ha'=>?_) (jt7 f2 jv)
            obtain ⟨rs',h1,h2⟩:=ha'
            have eq':rs' = rs:=by
              have h3:=s1 _ _ (sG _ _ ha)
              rw [h1] at h3
              have h4:=HO.lst.inj (Option.some.inj h3)
              exact (List.map_inj_right (fun a b e=>V.ref.inj e)).mp h4
            subst eq'
            obtain ⟨h5,r5⟩:=jej f2 h1 ra' jv
            refine ⟨r5,rs',h5,?_,fun i r' os e1' e2'=>?_⟩
            · rw [List.length_set]
              exact h2.1
            · by_cases z:i = p.toNat
              · subst z
                have:r' = r:=by
                  rw [er] at e1'
                  exact (Option.some.inj e1').symm
                subst this
                have lt:=(List.getElem?_eq_some_iff.mp erow).1
                rw [List.getElem?_set_self lt] at e2'
                cases e2'
                exact ⟨rr,_,ja,qy (Paired.pz px1' fun _ _=>zj.fr f2) (uq1.fr f2)⟩
              · rw [List.getElem?_set_ne (fun y=>z y.symm)] at e2'
                obtain ⟨q1,q2,q3,q4⟩:=h2.2 i r' os e1' e2'
                obtain ⟨q5,q6⟩:=jej f2 q3 q1 (jv (by intro y; cases y; exact z rfl))
                exact ⟨q6,q2,q5,Paired.pz q4 fun _ _=>zj.fr f2⟩
          have kr2:=kr1.put (a:=r) (o:=.lst (xs ++ [.ref q]))
          have uq2:=uq1.fr f2
          dsimp only
          generalize upd G1 r (.lst (xs ++ [.ref q])) = G2 at f2 O2 kr2 uq2
          refine hN _ _ (jkx fun N hN=>⟨_,rfl,W.x,W.dx,_,rfl,O2.ob.1,qv,_,rfl,ρ,id,W,_,true,q,⟨p,row.length,g,m⟩,rfl,O2,kr2,uq2,by show ω.way.length ≤ 100000; omega,hok.k1,fun G3 O3 f3 kr3=>hN _ _ ⟨_,rfl,?_⟩⟩)
          have fr:Fr (fun r=>r.1 = id) ρ H ρ G3:=((Fr.same (sG.trans s1)).trans (f2.mono fun r hr=>by rw [hr])).trans (f3.mono fun r hr=>by rw [hr])
          exact qM z' G3 q O3 fr kr3 (uq2.fr f3)
def y4 (K:W.Frag) (H:Hp) (a:Addr) (ks:List Int) : Prop:=H a = some (.lst (ks.map V.int)) ∨ (ks = [] ∧ SqT K H a [])
def jxs (K:W.Frag) : Sp:=fun vs H Q _=>∃ a b ks,vs = [.ref a,.int b] ∧ y4 K H a ks ∧ ks.Pairwise (· < ·) ∧ (∀ k ∈ ks,0 ≤ k ∧ k < b) ∧ Q (.bl true) H
theorem jrc (T:Txt K mg t) : yf P w K mg base CX0 3 t.jhu t.jho ["things","bound"] (jxs K):=by
 refine T.jg8.ok jb5 (fun vs H Q E h=>?_) (fun cdv A outer s H vs Q E hr h=>?_)
 ·obtain ⟨a,b,ks,rfl,_⟩:=h
  rfl
 ·obtain ⟨a,b,ks,rfl,hc,up,rg,k⟩:=h
  refine ⟨_,(@jb _ _ _ _ _ (j8 (i:=2) jb5.nd rfl (Or.inl rfl) jn)
   (@jb _ _ _ _ _ (jg7 PassesOwn.never rfl (j30 (pv 0)) (ju (i:=3) jb5.nd rfl (Or.inl rfl)) (@jb _ _ _ _ _ (zo (yi (xb (jq (qp T) hr.dn rfl T.qr T.ql.kp T.qt .nil jr (@jmy _ _ _ _ _ _ _ (pv 3) (pv 2) (xn jlm (pv 1) jn) rfl rfl rfl)))) (@jd _ _ _ (j4 jkd)) qc)
   (@jd _ _ _ (j8 (i:=2) jb5.nd rfl (Or.inl rfl) (xn jer (pv 3) jn)))))
   (@jd _ _ _ (j4 jkd)))),?_⟩
  rcases hc with ha | ⟨rfl,ha⟩
  ·refine .inl ⟨_,rfl,a,rfl,⟨_,SqL.of ha⟩,jfy (K:=K) (a:=a) (xs:=ks.map V.int) (fun i σ H'=>∃ v l,σ = [some (.ref a),some (.int b),some (.int l),v] ∧ H' = H ∧ ∀ z ∈ ks.drop i,l ≤ z) ⟨none,0,rfl,rfl,fun z hz=>(rg z hz).1⟩ (fun i σ H' _ ⟨_,_,_,e,_⟩=>SqL.of (by rw [e]; exact ha)) ?_ ?_⟩
   ·rintro i x σ H' hx ⟨v,l,rfl,rfl,hl⟩
    obtain ⟨z,ez,rfl⟩ : ∃ z,ks[i]? = some z ∧ x = .int z:=by
     rw [List.getElem?_map] at hx
     cases e:ks[i]? with
     | none=>rw [e] at hx; cases hx
     | some z=>rw [e] at hx; exact ⟨z,rfl,(Option.some.inj hx).symm⟩
    obtain ⟨hi,ez'⟩:=List.getElem?_eq_some_iff.mp ez
    have r:=rg z (List.mem_of_getElem? ez)
    have lz:l ≤ z:=hl z (by rw [List.drop_eq_getElem_cons hi,ez']; simp)
    refine ⟨_,rfl,_,rfl,_,rfl,_,_,rfl,rfl,_,_,_,rfl,?_⟩
    rw [decide_eq_true ⟨lz,(by omega:z ≤ b - 1)⟩]
    refine ⟨_,rfl,pq ?_⟩
    refine ⟨_,rfl,_,_,rfl,rfl,_,_,rfl,rfl,fun y hy=>?_⟩
    obtain ⟨j,hj,e⟩:=List.mem_iff_getElem.mp hy
    rw [List.length_drop] at hj
    rw [List.getElem_drop] at e
    have:=List.pairwise_iff_getElem.mp up i (i + 1 + j) hi (by omega) (by omega)
    rw [ez',e] at this
    omega
   ·rintro σ H' ⟨v,l,rfl,rfl,_⟩
    exact k
  ·refine .inr ⟨_,rfl,a,rfl,⟨_,ha⟩,j21 (K:=K) (a:=a) (xs:=[]) (fun i σ H'=>∃ v,σ = [some (.ref a),some (.int b),some (.int 0),v] ∧ H' = H) ⟨none,rfl,rfl⟩ (fun i σ H' _ ⟨_,_,e⟩=>by rw [e]; exact ha) (fun i x σ H' hx _=>by simp at hx) ?_⟩
   rintro σ H' ⟨v,rfl,rfl⟩
   exact k
theorem jgf (T:Txt K mg t) : yf P w K mg base CX0 4 t.jdj t.jcr ["thing","bound"] (fun vs H Q _=>∃ a b ks,vs = [.ref a,.int b] ∧ y4 K H a ks ∧ ks.Pairwise (· < ·) ∧ (∀ k ∈ ks,0 ≤ k ∧ k < b) ∧ ∀ H',wz H H' → Q (.bl true) H'):=by
 refine T.ub.ok jnz (fun vs H Q E h=>?_) (fun cdv A outer s H vs Q E hr h=>?_)
 ·obtain ⟨a,b,ks,rfl,_⟩:=h
  rfl
 ·obtain ⟨a,b,ks,rfl,hc,up,rg,k⟩:=h
  refine ⟨_,(@jd _ _ _ (j4 (jpo (jt jv3 rfl T.j5 boot_isinstance (@v8 _ _ _ _ _ (pv 0) (@jm0 _ _ _ _ _ (@v8 _ _ _ _ _ (jjx (v:=.ty "list") rfl T.jiz boot_list rfl) (jjx (v:=.ty "tuple") rfl T.jub boot_tuple rfl) rfl rfl)) rfl rfl)) (jql (jq (jrc T) hr.dn rfl T.jnh T.jg8.kp T.jna .nil jr (@v8 _ _ _ _ _ (pv 0) (pv 1) rfl rfl)))))),?_⟩
  refine ⟨_,rfl,zs2,fun q hq=>?_⟩
  have s1:=jg (o:=.tup [.ty "list",.ty "tuple"]) hq
  have hc1:y4 K (upd H q (.tup [.ty "list",.ty "tuple"])) a ks:=by
   rcases hc with h | ⟨e,h⟩
   ·exact .inl (s1 _ _ h)
   ·refine .inr ⟨e,?_⟩
    rcases h with h | h
    ·exact .inl (jrr s1 h)
    ·exact .inr h
  refine ⟨a,q,rfl,ja,?_,?_⟩
  ·rcases hc1 with h | ⟨_,h⟩
   ·exact .inl ⟨_,SqL.of h⟩
   ·exact .inr ⟨_,h⟩
  exact ⟨_,rfl,jno ⟨_,rfl,_,rfl,a,b,ks,rfl,hc1,up,rg,k _ s1⟩⟩
theorem y4.same {K:W.Frag} {H H':Hp} {a:Addr} {ks:List Int} (s1:wz H H') (hc:y4 K H a ks) : y4 K H' a ks:=by
 rcases hc with h | ⟨e,h⟩
 ·exact .inl (s1 _ _ h)
 ·refine .inr ⟨e,?_⟩
  rcases h with h | h
  ·exact .inl (jrr s1 h)
  ·exact .inr h
theorem y4.sq {K:W.Frag} {H:Hp} {a:Addr} {ks:List Int} (hc:y4 K H a ks) : SqL K H a (ks.map V.int) ∨ SqT K H a (ks.map V.int):=by
 rcases hc with h | ⟨e,h⟩
 ·exact .inl (SqL.of h)
 ·subst e
  exact .inr h
theorem jl3 (T:Txt K mg t) : yf P w K mg base CX0 3 t.jbp t.jbr ["thing"] (fun vs H Q _=>∃ i,vs = [.int i] ∧ Q (.bl (decide (1 ≤ i ∧ i ≤ 16))) H):=by
 refine T.jbv.ok jl8 (fun vs H Q E h=>?_) (fun cdv A outer s H vs Q E hr h=>?_)
 ·obtain ⟨x,rfl,_⟩:=h
  rfl
 ·obtain ⟨x,rfl,k⟩:=h
  refine ⟨_,(@jd _ _ _ (j4 (jq (qp T) hr.dn rfl T.qr T.ql.kp T.qt .nil jr (@jmy _ _ _ _ _ _ _ (pv 0) jn (zc (v:=.int 16) rfl T.jkq.choose_spec ⟨_,rfl⟩) rfl rfl rfl)))),?_⟩
  exact ⟨_,rfl,x,1,16,rfl,k⟩
theorem jyk (T:Txt K mg t) : yf P w K mg base CX0 3 t.jrk t.jrn ["thing"] (fun vs H Q _=>∃ i,vs = [.int i] ∧ Q (.bl (decide (0 ≤ i ∧ i ≤ 5))) H):=by
 refine T.jq7.ok jyu (fun vs H Q E h=>?_) (fun cdv A outer s H vs Q E hr h=>?_)
 ·obtain ⟨x,rfl,_⟩:=h
  rfl
 ·obtain ⟨x,rfl,k⟩:=h
  refine ⟨_,(@jd _ _ _ (j4 (jq (qp T) hr.dn rfl T.qr T.ql.kp T.qt .nil jr (@jmy _ _ _ _ _ _ _ (pv 0) jn (zc (v:=.int 5) rfl T.jqv.choose_spec ⟨_,rfl⟩) rfl rfl rfl)))),?_⟩
  exact ⟨_,rfl,x,0,5,rfl,k⟩
theorem jsb (T:Txt K mg t) : yf P w K mg base CX0 1 t.jjb t.jja ["houses","few"] (fun vs H Q _=>∃ h f:Int,vs = [.int h,.int f] ∧ Q (.bl (decide (h > 3 * f))) H):=by
 refine T.jj8.ok jsv (fun vs H Q E h=>?_) (fun cdv A outer s H vs Q E hr h=>?_)
 ·obtain ⟨i,j,rfl,_⟩:=h
  rfl
 ·obtain ⟨i,j,rfl,q⟩:=h
  refine ⟨_,(@jd _ _ _ (j4 (jeh jxt (pv 0) (xn jvt jn (pv 1)) (qf _)))),?_⟩
  exact ⟨_,rfl,_,rfl,_,_,rfl,rfl,.inl (by decide),_,_,rfl,rfl,q⟩
theorem jtt (T:Txt K mg t) : yf P w K mg base CX0 1 t.jjr t.jjv ["houses","few"] (fun vs H Q _=>∃ i j:Int,vs = [.int i,.int j] ∧ Q (.int (i - j)) H):=by
 refine T.jj4.ok jsr (fun vs H Q E h=>?_) (fun cdv A outer s H vs Q E hr h=>?_)
 ·obtain ⟨i,j,rfl,_⟩:=h
  rfl
 ·obtain ⟨i,j,rfl,q⟩:=h
  refine ⟨_,(@jd _ _ _ (j4 (xn jlm (pv 0) (pv 1)))),?_⟩
  exact ⟨_,rfl,_,rfl,_,_,rfl,rfl,q⟩
theorem juo (T:Txt K mg t) : yf P w K mg base CX0 3 t.jmq t.jmj ["thing"] (fun vs H Q _=>∃ a ns,vs = [.ref a] ∧ H a = some (.lst ((ns:List Int).map V.int)) ∧ 2 ≤ ns.length ∧ ns.length ≤ 8 ∧ (∀ i ∈ ns,0 ≤ i ∧ i ≤ 1000) ∧ ∀ H',wz H H' → Q (.bl true) H'):=by
 refine T.jmk.ok juq (fun vs H Q E h=>?_) (fun cdv A outer s H vs Q E hr h=>?_)
 ·obtain ⟨a,ns,rfl,_⟩:=h
  rfl
 ·obtain ⟨a,ns,rfl,e,l2,l8,rg,k⟩:=h
  refine ⟨_,(@jb _ _ _ _ _ (zo (PW.pt (jko (yi (xb (jt jfc rfl T.j5 boot_isinstance (@v8 _ _ _ _ _ (pv 0) (jjx (v:=.ty "list") rfl T.jiz boot_list rfl) rfl rfl)))) (je7 (jw jz1 (jt jz rfl T.jeo boot_len (jc (pv 0) jf)) (zc (v:=.int 2) rfl T.jis.choose_spec ⟨_,rfl⟩) (qf _))))) (@jd _ _ _ (j4 jkd)) qc)
   (@jd _ _ _ (j4 (jt (jzu rfl) rfl T.j4s boot_all (jc (jd0 (N':=["each"]) (ix:=[none]) (gh (by kernel_rfl)) rfl (@jbh _ _ _ _ (pv 0)) (fun _ _ _ _=>(ju (i:=0) j71 rfl (Or.inl rfl) (.inr rfl))) (fun _ _ _ _=>jrl) (fun _ _ _ _=>(jq (qp T) hr.dn rfl T.qr T.ql.kp T.qt .nil jr (@jmy _ _ _ _ _ _ _ (pv 0) jn (zc (v:=.int 1000) rfl T.jf2.choose_spec ⟨_,rfl⟩) rfl rfl rfl)))) jf))))),?_⟩
  refine ⟨_,rfl,_,_,_,true,rfl,.lst e,rfl,_,rfl,pq ?_⟩
  refine ⟨_,rfl,a,_,rfl,.inl (SqL.of e),_,_,rfl,rfl,_,rfl,jgn (fun h1=>?_) (fun h1=>?_)⟩
  ·exfalso
   have:=of_decide_eq_true h1
   rw [List.length_map] at this
   omega
  refine ⟨_,rfl,a,rfl,⟨_,SqL.of e⟩,jpk (K:=K) (a:=a) (xs:=ns.map V.int) (fun i ys σ' H'=>∃ v,σ' = [v] ∧ H' = H ∧ ys = (List.replicate i true).map V.bl) ⟨none,rfl,rfl,rfl⟩ ?_ ?_ ?_⟩
  ·rintro i ys σ' H' hi ⟨v,rfl,rfl,rfl⟩
   refine ⟨SqL.of e,jmm ?_⟩
   rw [List.length_map] at hi
   rw [List.length_map,List.length_replicate]
   omega
  ·rintro i x ys σ' H' hx ⟨v,rfl,rfl,rfl⟩
   obtain ⟨z,ez,rfl⟩ : ∃ z,ns[i]? = some z ∧ x = .int z:=by
    rw [List.getElem?_map] at hx
    cases e:ns[i]? with
    | none=>rw [e] at hx; cases hx
    | some z=>rw [e] at hx; exact ⟨z,rfl,(Option.some.inj hx).symm⟩
   dsimp only [jom,j39]
   rw [if_pos rfl]
   refine ⟨_,rfl,z,0,1000,rfl,?_⟩
   rw [decide_eq_true (rg z (List.mem_of_getElem? ez))]
   refine ⟨_,rfl,rfl,?_⟩
   rw [List.replicate_succ',List.map_append]
   rfl
  ·rintro ys σ' H' ⟨v,rfl,rfl,rfl⟩ q hq
   refine ⟨q,List.replicate (ns.map V.int).length true,rfl,SqL.of ja,?_⟩
   have g:=k _ (jg (o:=.lst ((List.replicate (ns.map V.int).length true).map V.bl)) hq)
   rw [show (List.replicate (ns.map V.int).length true).all id = true by simp]
   exact g
theorem jl5 (T:Txt K mg t) : yf P w K mg base CX0 4 t.jbn t.jbi ["thing"] (fun vs H Q _=>∃ a ns,vs = [.ref a] ∧ H a = some (.lst ((ns:List Int).map V.int)) ∧ 2 ≤ ns.length ∧ ns.length ≤ 8 ∧ (∀ i ∈ ns,0 ≤ i ∧ i ≤ 1000) ∧ ∀ H',wz H H' → Q (.bl true) H'):=by
 refine T.jbj.ok jl7 (fun vs H Q E h=>?_) (fun cdv A outer s H vs Q E hr h=>?_)
 ·obtain ⟨a,ns,rfl,_⟩:=h
  rfl
 ·obtain ⟨a,ns,rfl,e,l2,l8,rg,k⟩:=h
  refine ⟨_,(@jd _ _ _ (j4 (jpo (jq (juo T) hr.dn rfl T.jqt T.jmk.kp T.jqp .nil jr (jc (pv 0) jf)) (jql (jeh jx0 (jt jz rfl T.jeo boot_len (jc (pv 0) jf)) (zc (v:=.int 8) rfl T.jkp.choose_spec ⟨_,rfl⟩) (qf _)))))),?_⟩
  refine ⟨_,rfl,a,ns,rfl,e,l2,l8,rg,fun H1 s1=>⟨_,rfl,jno ?_⟩⟩
  refine ⟨_,rfl,a,_,rfl,.inl (SqL.of (s1 _ _ e)),_,_,rfl,rfl,?_⟩
  have g:=k H1 s1
  show Q (.bl (decide (((ns.map V.int).length:Int) ≤ 8))) H1
  rw [show decide (((ns.map V.int).length:Int) ≤ 8) = true from decide_eq_true (by rw [List.length_map]; omega)]
  exact g
theorem jo7 (T:Txt K mg t) : yf P w K mg base CX0 5 t.jea t.jeb ["houses","few","liars"] (fun vs H Q _=>∃ h f a ks,vs = [.int h,.int f,.ref a] ∧ (1 ≤ h ∧ h ≤ 16) ∧ (0 ≤ f ∧ f ≤ 5) ∧ 3 * f < h ∧ y4 K H a ks ∧ ks.Pairwise (· < ·) ∧ (∀ k ∈ ks,0 ≤ k ∧ k < h) ∧ (ks.length:Int) ≤ f ∧ ∀ H',wz H H' → Q .non H'):=by
 refine T.jec.ok jpb (fun vs H Q E h=>?_) (fun cdv A outer s H vs Q E hr h=>?_)
 ·obtain ⟨hs,fw,a,ks,rfl,_⟩:=h
  rfl
 ·obtain ⟨h,f,a,ks,rfl,h1,f1,lt,hc,up,rg,l,k⟩:=h
  refine ⟨_,(@jb _ _ _ _ _ (zo (PW.pt (jko (yi (xb (jq (jl3 T) hr.dn rfl T.jgc T.jbv.kp T.jgi .nil jr (jc (pv 0) jf)))) (je7 (yi (xb (jq (jyk T) hr.dn rfl T.jvd T.jq7.kp T.jvc .nil jr (jc (pv 1) jf))))))) qx qc)
   (@jb _ _ _ _ _ (zo (yi (xb (jic (jsb T) hr.dn rfl T.jph T.jj8.kp T.jlh jr (jc (pv 0) jf) (jdc (pv 1) job)))) qx qc)
   (@jd _ _ _ (zo (PW.pt (jko (yi (xb (jq (jgf T) hr.dn rfl T.jc8 T.ub.kp T.jcf .nil jr (@v8 _ _ _ _ _ (pv 2) (pv 0) rfl rfl)))) (je7 (jw jxt (jt jz rfl T.jeo boot_len (jc (pv 2) jf)) (pv 1) (qf _))))) qx qc)))),?_⟩
  refine ⟨_,rfl,h,rfl,_,rfl,?_⟩
  rw [decide_eq_true h1]
  refine pq ⟨_,rfl,f,rfl,_,rfl,?_⟩
  rw [decide_eq_true f1]
  refine pq ⟨_,rfl,_,rfl,h,f,rfl,_,rfl,?_⟩
  rw [decide_eq_true (by omega)]
  refine pq ⟨_,rfl,_,rfl,a,h,ks,rfl,hc,up,rg,fun H1 s1=>⟨_,rfl,pq ?_⟩⟩
  refine ⟨_,rfl,a,_,rfl,(hc.same s1).sq,_,rfl,_,_,rfl,rfl,_,rfl,jgn (fun z=>?_) (fun _=>k _ s1)⟩
  exfalso
  have:=of_decide_eq_true z
  rw [List.length_map] at this
  omega
theorem jpr (T:Txt K mg t) : yf P w K mg base CX0 5 t.jek t.jee ["sums","cheats"] (fun vs H Q _=>∃ a ns b ks,vs = [.ref a,.ref b] ∧ H a = some (.lst ((ns:List Int).map V.int)) ∧ 2 ≤ ns.length ∧ ns.length ≤ 8 ∧ (∀ i ∈ ns,0 ≤ i ∧ i ≤ 1000) ∧ y4 K H b ks ∧ ks.Pairwise (· < ·) ∧ (∀ k ∈ ks,0 ≤ k ∧ k < (ns.length:Int)) ∧ ∀ H',wz H H' → Q .non H'):=by
 refine T.jel.ok jov (fun vs H Q E h=>?_) (fun cdv A outer s H vs Q E hr h=>?_)
 ·obtain ⟨a,ns,b,ks,rfl,_⟩:=h
  rfl
 ·obtain ⟨a,ns,b,ks,rfl,e,l2,l8,r1,hc,up,rg,k⟩:=h
  refine ⟨_,(@jb _ _ _ _ _ (zo (yi (xb (jq (jl5 T) hr.dn rfl T.jf4 T.jbj.kp T.jgh .nil jr (jc (pv 0) jf)))) qx qc)
   (@jd _ _ _ (zo (yi (xb (jq (jgf T) hr.dn rfl T.jc8 T.ub.kp T.jcf .nil jr (@v8 _ _ _ _ _ (pv 1) (jt jz rfl T.jeo boot_len (jc (pv 0) jf)) rfl rfl)))) qx qc))),?_⟩
  refine ⟨_,rfl,a,ns,rfl,e,l2,l8,r1,fun H1 s1=>⟨_,rfl,pq ?_⟩⟩
  refine ⟨_,rfl,_,rfl,a,_,rfl,.inl (SqL.of (s1 _ _ e)),b,_,ks,rfl,hc.same s1,up,fun k hk=>?_,fun H2 s2=>⟨_,rfl,pq (k _ (s1.trans s2))⟩⟩
  rw [List.length_map]
  exact rg k hk
def PK (H:Hp) (ρ : Rho) (id:Nat) (h:Int) (L:List (Nat × Addr × HO)) : Prop:=∀ x ∈ L,1 ≤ x.1 ∧ ρ x.2.1 = some (id,.kp h x.1) ∧ H x.2.1 = some x.2.2
theorem PK.new {H:Hp} {ρ : Rho} {id:Nat} {h:Int} {L:List (Nat × Addr × HO)} {p:Addr} {f:Nat} {u:HO} (k:PK H ρ id h L) (n:H p = none) (hf : 1 ≤ f) : PK (upd H p u) (jaz ρ p (id,.kp h f)) id h ((f,p,u) :: L):=fun x hx=>by
 rcases List.mem_cons.mp hx with rfl | hx
 ·exact ⟨hf,zm,ja⟩
 ·obtain ⟨a,b,c⟩:=k x hx
  have:x.2.1 ≠ p:=jk c n
  exact ⟨a,by rw [xl this]; exact b,by rw [je this]; exact c⟩
theorem PK.obj {H:Hp} {ρ : Rho} {id:Nat} {h:Int} {L:List (Nat × Addr × HO)} {x:Addr} {o:HO} (k:PK H ρ id h L) (rx : ρ x = some (id,.kp h 0)) : PK (upd H x o) ρ id h L:=fun y hy=>by
 obtain ⟨a,b,c⟩:=k y hy
 exact ⟨a,b,by rw [je (ner b rx (fun z=>by have e:=(Part.kp.inj (Prod.mk.inj z).2).2; omega))]; exact c⟩
theorem PK.same {H H':Hp} {ρ : Rho} {id:Nat} {h:Int} {L:List (Nat × Addr × HO)} (s:wz H H') (k:PK H ρ id h L) : PK H' ρ id h L:=fun y hy=>let ⟨a,b,c⟩:=k y hy; ⟨a,b,s _ _ c⟩
theorem PK.at_ {H:Hp} {ρ : Rho} {id:Nat} {h:Int} {L:List (Nat × Addr × HO)} (k:PK H ρ id h L) (j:Nat) {f:Nat} {a:Addr} {u:HO} (e:L[j]? = some (f,a,u)) : ρ a = some (id,.kp h f) ∧ H a = some u:=(k _ (List.mem_of_getElem? e)).2
structure Mk (t:Ad) (ρ0:Rho) (H0:Hp) (id:Nat) (h:Int) (x dx:Addr) (fs:List (Str × V)) (L:List (Nat × Addr × HO)) (ρ : Rho) (H:Hp) : Prop where
 ob:H x = some (.ins t.j3 dx fs)
 rx : ρ x = some (id,.kp h 0)
 pk:PK H ρ id h L
 fr:Fr (isK id h) ρ0 H0 ρ H
 kr:OkR ρ H
section
variable {t:Ad} {ρ0 ρ : Rho} {H0 H H':Hp} {id:Nat} {h:Int} {x dx:Addr} {fs fs':List (Str × V)} {L:List (Nat × Addr × HO)}
theorem Mk.new {p:Addr} {u:HO} (f:Nat) (m:Mk t ρ0 H0 id h x dx fs L ρ H) (n:H p = none) (hf : 1 ≤ f) (hu:jt9 u:=by exact True.intro) : Mk t ρ0 H0 id h x dx fs ((f,p,u) :: L) (jaz ρ p (id,.kp h f)) (upd H p u):=by
 have nx:x ≠ p:=jk m.ob n
 exact ⟨by rw [je nx]; exact m.ob,by rw [xl nx]; exact m.rx,m.pk.new n hf,m.fr.trans (Fr.jnx n),m.kr.jnx hu⟩
theorem Mk.tmp (m:Mk t ρ0 H0 id h x dx fs L ρ H) (s:wz H H') : Mk t ρ0 H0 id h x dx fs L ρ H':=⟨s _ _ m.ob,m.rx,m.pk.same s,m.fr.trans (Fr.same s),m.kr.same s⟩
theorem Mk.obj (m:Mk t ρ0 H0 id h x dx fs L ρ H) : Mk t ρ0 H0 id h x dx fs' L ρ (upd H x (.ins t.j3 dx fs')):=⟨ja,m.rx,m.pk.obj m.rx,m.fr.trans (Fr.put m.rx ⟨0,rfl⟩),m.kr.put⟩
end
theorem jnr (T:Txt K mg t) : yf P w K mg base CX0 1 t.vf t.jdd ["self","sums"] (fun vs H Q _=>∃ ρ id h x dx sa,∃ ns:List Int,vs = [.ref x,.ref sa] ∧ H x = some (.ins t.j3 dx []) ∧ ρ x = some (id,.kp h 0) ∧ OkR ρ H ∧ H sa = some (.lst (ns.map V.int)) ∧ ns.length ≤ 1000 ∧
  ∀ ρ' H' he nn dn,Mk t ρ H id h x dx (bkf he nn dn) [(3,dn,.lst []),(2,nn,.lst ((List.replicate ns.length 0).map V.int)),(1,he,.lst (ns.map V.int))] ρ' H' → Q .non H'):=by
 refine T.jhr.ok jnq (fun vs H Q E h=>?_) (fun cdv A outer s H vs Q E hr h=>?_)
 ·obtain ⟨ρ,id,h,x,dx,sa,ns,rfl,_⟩:=h
  rfl
 ·obtain ⟨ρ,id,h,x,dx,sa,ns,rfl,hx,rx,kr,hs,ln,k⟩:=h
  refine ⟨_,(@jb _ _ _ _ _ (jag (pv 0) (jc0 vo rfl T.jiz boot_list (jc (pv 1) jf)) rfl)
   (@jb _ _ _ _ _ (jag (pv 0) (xn j3x (@zk _ _ _ _ (jc jn jf)) (jt jz rfl T.jeo boot_len (jc (pv 1) jf))) rfl)
   (@jd _ _ _ (jag (pv 0) (@zk _ _ _ _ jf) rfl)))),?_⟩
  have m0:Mk t ρ H id h x dx [] [] ρ H:=⟨hx,rx,(fun _ z=>by cases z),Fr.refl,kr⟩
  have sx:sa ≠ x:=jlw hs hx (by intro z; cases z)
  refine ⟨_,rfl,sa,_,rfl,.inl (SqL.of hs),fun he nh=>?_⟩
  have m1:=m0.new 1 nh (u:=.lst (ns.map V.int)) (by decide)
  have hs1:=jg (o:=.lst (ns.map V.int)) nh _ _ hs
  refine ⟨_,rfl,x,_,dx,_,rfl,m1.ob,T.jm,T.xu,(by show 0 < 1000; decide),?_⟩
  have m2:=m1.obj (fs':=pf "held" (.ref he) [])
  have hs2:upd (upd H he (.lst (ns.map V.int))) x (.ins t.j3 dx (pf "held" (.ref he) [])) sa = some (.lst (ns.map V.int)):=by rw [je sx]; exact hs1
  dsimp only
  generalize upd (upd H he (.lst (ns.map V.int))) x (.ins t.j3 dx (pf "held" (.ref he) [])) = G at m2 hs2
  refine ⟨zs1,fun z1 n1=>⟨_,rfl,sa,_,rfl,.inl (SqL.of ((jg n1) _ _ hs2)),?_⟩⟩
  have m3:=m2.tmp (jg (o:=.lst [.int 0]) n1)
  refine ⟨z1,_,[.int 0],rfl,rfl,ja,?_,?_,?_,fun nn n2=>?_⟩
  ·omega
  ·rw [List.length_map]; have:=jpw; omega
  ·rw [List.length_map]; exact jmm (by simp; omega)
  have er:(List.replicate (((ns.map V.int).length:Nat) : Int).toNat [V.int 0]).flatten = (List.replicate ns.length 0).map V.int:=by
   rw [Int.toNat_natCast,List.length_map,List.map_replicate]
   generalize ns.length = n
   induction n with
   | zero=>rfl
   | succ n ih=>rw [List.replicate_succ,List.flatten_cons,ih,List.replicate_succ]; rfl
  rw [er]
  have m4:=m3.new 2 n2 (u:=.lst ((List.replicate ns.length 0).map V.int)) (by decide)
  generalize upd (upd G z1 (.lst [.int 0])) nn (.lst ((List.replicate ns.length 0).map V.int)) = G4 at m4
  refine ⟨_,rfl,x,_,dx,_,rfl,m4.ob,T.jm,T.qw,(by show 1 < 1000; decide),?_⟩
  have m5:=m4.obj (fs':=pf "next_numbers" (.ref nn) (pf "held" (.ref he) []))
  dsimp only
  generalize upd G4 x (.ins t.j3 dx (pf "next_numbers" (.ref nn) (pf "held" (.ref he) []))) = G5 at m5
  refine ⟨zs0,fun dn n3=>⟨_,rfl,x,_,dx,_,rfl,(m5.new 3 n3 (u:=.lst []) (by decide)).ob,T.jm,T.ja2,(by show 2 < 1000; decide),?_⟩⟩
  exact k _ _ he nn dn ((m5.new 3 n3 (u:=.lst []) (by decide)).obj)
def kp0 (ns:List Int) : Kp:=⟨ns,List.replicate ns.length 0,[],[],[],[],[]⟩
theorem jli (T:Txt K mg t) : yf P w K mg base CX0 2 t.v3 t.jah ["self","sums"] (fun vs H Q _=>∃ ρ id h x dx sa,∃ ns:List Int,vs = [.ref x,.ref sa] ∧ H x = some (.ins t.j3 dx []) ∧ ρ x = some (id,.kp h 0) ∧ OkR ρ H ∧ H sa = some (.lst (ns.map V.int)) ∧ ns.length ≤ 1000 ∧
  ∀ ρ' H' A,xj t H' ρ' id h x A dx (kp0 ns) → Fr (isK id h) ρ H ρ' H' → OkR ρ' H' → Q .non H'):=by
 refine T.je6.ok jkv (fun vs H Q E h=>?_) (fun cdv A outer s H vs Q E hr h=>?_)
 ·obtain ⟨ρ,id,h,x,dx,sa,ns,rfl,_⟩:=h
  rfl
 ·obtain ⟨ρ,id,h,x,dx,sa,ns,rfl,hx,rx,kr,hs,ln,k⟩:=h
  refine ⟨_,(@jb _ _ _ _ _ (qe (j18 rfl T.j1h T.jgk (jnr T) hr.dn T.jht .nil jr (@v8 _ _ _ _ _ (pv 0) (pv 1) rfl rfl)))
   (@jb _ _ _ _ _ (jag (pv 0) jrm rfl)
   (@jb _ _ _ _ _ (jag (pv 0) (@zk _ _ _ _ jf) rfl)
   (@jb _ _ _ _ _ (jag (pv 0) jrm rfl)
   (@jd _ _ _ (jag (pv 0) (@zk _ _ _ _ jf) rfl)))))),?_⟩
  refine ⟨_,rfl,_,rfl,ρ,id,h,x,dx,sa,ns,rfl,hx,rx,kr,hs,ln,fun ρ1 H1 he nn dn m1=>?_⟩
  refine fun hd n1=>⟨_,rfl,x,_,dx,_,rfl,(m1.new 4 n1 (u:=.dT []) (by decide)).ob,T.jm,T.jae,(by show 3 < 1000; decide),?_⟩
  have m2:=(m1.new 4 n1 (u:=.dT []) (by decide)).obj (fs':=pf "heard" (.ref hd) (bkf he nn dn))
  dsimp only
  generalize upd (upd H1 hd (.dT [])) x (.ins t.j3 dx (pf "heard" (.ref hd) (bkf he nn dn))) = G2 at m2
  refine ⟨zs0,fun un n2=>⟨_,rfl,x,_,dx,_,rfl,(m2.new 5 n2 (u:=.lst []) (by decide)).ob,T.jm,T.yc,(by show 4 < 1000; decide),?_⟩⟩
  have m3:=(m2.new 5 n2 (u:=.lst []) (by decide)).obj (fs':=pf "unvoted" (.ref un) (pf "heard" (.ref hd) (bkf he nn dn)))
  dsimp only
  generalize upd (upd G2 un (.lst [])) x (.ins t.j3 dx (pf "unvoted" (.ref un) (pf "heard" (.ref hd) (bkf he nn dn)))) = G3 at m3
  refine fun cs n3=>⟨_,rfl,x,_,dx,_,rfl,(m3.new 6 n3 (u:=.dT []) (by decide)).ob,T.jm,T.zv,(by show 5 < 1000; decide),?_⟩
  have m4:=(m3.new 6 n3 (u:=.dT []) (by decide)).obj (fs':=pf "choices" (.ref cs) (pf "unvoted" (.ref un) (pf "heard" (.ref hd) (bkf he nn dn))))
  dsimp only
  generalize upd (upd G3 cs (.dT [])) x (.ins t.j3 dx (pf "choices" (.ref cs) (pf "unvoted" (.ref un) (pf "heard" (.ref hd) (bkf he nn dn))))) = G4 at m4
  refine ⟨zs0,fun wt n4=>⟨_,rfl,x,_,dx,_,rfl,(m4.new 7 n4 (u:=.lst []) (by decide)).ob,T.jm,T.za,(by show 6 < 1000; decide),?_⟩⟩
  have m5:=(m4.new 7 n4 (u:=.lst []) (by decide)).obj (fs':=kf he nn dn hd un cs wt)
  refine k _ _ (fun f=>match f with | 1=>he | 2=>nn | 3=>dn | 4=>hd | 5=>un | 6=>cs | _=>wt) ⟨m5.ob,m5.rx,fun f h1 h7=>?_⟩ m5.fr m5.kr
  have p:=m5.pk
  match f,h1,h7 with
  | 1,_,_=>exact ⟨(p.at_ 6 rfl).1,_,(p.at_ 6 rfl).2,rfl⟩
  | 2,_,_=>exact ⟨(p.at_ 5 rfl).1,_,(p.at_ 5 rfl).2,rfl⟩
  | 3,_,_=>exact ⟨(p.at_ 4 rfl).1,_,(p.at_ 4 rfl).2,[],rfl,.nil⟩
  | 4,_,_=>exact ⟨(p.at_ 3 rfl).1,_,(p.at_ 3 rfl).2,[],rfl,rfl⟩
  | 5,_,_=>exact ⟨(p.at_ 2 rfl).1,_,(p.at_ 2 rfl).2,[],rfl,.nil⟩
  | 6,_,_=>exact ⟨(p.at_ 1 rfl).1,_,(p.at_ 1 rfl).2,[],rfl,.nil⟩
  | 7,_,_=>exact ⟨(p.at_ 0 rfl).1,_,(p.at_ 0 rfl).2,[],rfl,.nil⟩
def jlt (K:W.Frag) (H:Hp) (ρ : Rho) (id:Nat) (a:Addr) (ks:List Int) : Prop:=(H a = some (.lst (ks.map V.int)) ∧ ∀ r,ρ a = some r → ¬ r.1 = id) ∨ (ks = [] ∧ ∃ (o:Obj) (its:Array Value) (n:Nat),K.lookup a = some o ∧ o.cls = .type "tuple" ∧ o.data = .seq its n ∧ its.size ≤ sizeLine ∧ Vals [] its.toList)
theorem jlt.at_ {K:W.Frag} {H:Hp} {ρ : Rho} {id:Nat} {a:Addr} {ks:List Int} (h:jlt K H ρ id a ks) : y4 K H a ks:=h.imp (fun q=>q.1) (fun q=>⟨q.1,.inr q.2⟩)
theorem jlt.fr {K:W.Frag} {H H':Hp} {ρ ρ':Rho} {id:Nat} {a:Addr} {ks:List Int} (f:Fr (fun r=>r.1 = id) ρ H ρ' H') (h:jlt K H ρ id a ks) : y4 K H' a ks:=by
 rcases h with ⟨h,n⟩ | ⟨e,h⟩
 ·exact .inl (f a _ h n).1
 ·exact .inr ⟨e,.inr h⟩
theorem yr.fr' {t:Ad} {P:Role → Prop} {ρ ρ':Rho} {H H':Hp} {id:Nat} (f:Fr P ρ H ρ' H') : ∀ {kvs:List (Key × V)} {ks:List (Int × Kp)},(∀ c ∈ ks,∀ j,¬ P (id,.kp c.1 j)) → yr t H ρ id kvs ks → yr t H' ρ' id kvs ks
 | _,_,_,.nil=>.nil
 | _,c :: _,n,.cons ⟨e,k,A,dk,ek,q⟩ r=>.cons ⟨e,k,A,dk,ek,q.fr (n c List.mem_cons_self) f⟩ (yr.fr' f (fun c' hc=>n c' (List.mem_cons_of_mem _ hc)) r)
def allI (id:Nat) : Role → Prop:=fun r=>r.1 = id
structure MkW (t:Ad) (ρ0:Rho) (H0:Hp) (id:Nat) (x dx:Addr) (fs:List (Str × V)) (ρ : Rho) (H:Hp) : Prop where
 ob:H x = some (.ins t.jy dx fs)
 rx : ρ x = some (id,.x)
 fr:Fr (allI id) ρ0 H0 ρ H
 kr:OkR ρ H
section
variable {t:Ad} {ρ0 ρ ρ':Rho} {H0 H H':Hp} {id:Nat} {x dx:Addr} {fs fs':List (Str × V)} {P:Role → Prop}
theorem MkW.step (m:MkW t ρ0 H0 id x dx fs ρ H) (f:Fr P ρ H ρ' H') (n : ¬ P (id,.x)) (hP : ∀ r,P r → r.1 = id) (kr:OkR ρ' H') : MkW t ρ0 H0 id x dx fs ρ' H':=by
 obtain ⟨e,r⟩:=jej f m.ob m.rx n
 exact ⟨e,r,m.fr.trans (f.mono hP),kr⟩
theorem MkW.tmp (m:MkW t ρ0 H0 id x dx fs ρ H) (s:wz H H') : MkW t ρ0 H0 id x dx fs ρ H':=m.step (P:=fun _=>False) (Fr.same s) (fun z=>z) (fun _ z=>z.elim) (m.kr.same s)
theorem MkW.new {p:Addr} {u:HO} {r:Role} (m:MkW t ρ0 H0 id x dx fs ρ H) (n:H p = none) (hu:jt9 u:=by exact True.intro) : MkW t ρ0 H0 id x dx fs (jaz ρ p r) (upd H p u):=m.step (P:=fun _=>False) (Fr.jnx n) (fun z=>z) (fun _ z=>z.elim) (m.kr.jnx hu)
theorem MkW.obj (m:MkW t ρ0 H0 id x dx fs ρ H) : MkW t ρ0 H0 id x dx fs' ρ (upd H x (.ins t.jy dx fs')):=⟨ja,m.rx,m.fr.trans (Fr.put m.rx rfl),m.kr.put⟩
theorem MkW.fo (m:MkW t ρ0 H0 id x dx fs ρ H) : Fr (isP id .x) ρ H ρ (upd H x (.ins t.jy dx fs')):=Fr.put m.rx rfl
end
def jbx (ls:List Int) (n:Nat) : List Int:=((List.range n).map fun (i:Nat)=>(i:Int)).filter fun i=>!decide (i ∈ ls)
def w0 (h f:Int) (ns cs ls:List Int) : Wd:=⟨ns.length,cs,(jbx ls h.toNat).map fun i=>(i,kp0 ns),[],h - f,List.replicate ns.length [],[]⟩
structure Two (H:Hp) (ρ : Rho) (ch ly:Addr) (cs ls:List Int) : Prop where
 c:H ch = some (.lst (cs.map V.int)) ∧ ρ ch = none
 l:H ly = some (.lst (ls.map V.int)) ∧ ρ ly = none
theorem Two.fr {P:Role → Prop} {ρ ρ':Rho} {H H':Hp} {ch ly:Addr} {cs ls:List Int} (f:Fr P ρ H ρ' H') (h:Two H ρ ch ly cs ls) : Two H' ρ' ch ly cs ls:=⟨jp7 f h.c.1 h.c.2,jp7 f h.l.1 h.l.2⟩
theorem jk4 (ls:List Int) (n:Nat) : jbx ls (n + 1) = jbx ls n ++ if (n:Int) ∈ ls then [] else [(n:Int)]:=by
 unfold jbx
 rw [List.range_succ,List.map_append,List.filter_append]
 congr 1
 by_cases z:(n:Int) ∈ ls
 ·rw [if_pos z]
  simp [z]
 ·rw [if_neg z]
  simp [z]
theorem jrj {ls:List Int} {n:Nat} {i:Int} (h:i ∈ jbx ls n) : 0 ≤ i ∧ i < (n:Int) ∧ i ∉ ls:=by
 unfold jbx at h
 obtain ⟨h1,h2⟩:=List.mem_filter.mp h
 obtain ⟨j,hj,rfl⟩:=List.mem_map.mp h1
 have:=List.mem_range.mp hj
 exact ⟨by omega,by omega,by simpa using h2⟩
theorem jq6 (ls:List Int) (n:Nat) : (jbx ls n).length ≤ n:=by
 unfold jbx
 refine Nat.le_trans (List.length_filter_le _ _) ?_
 rw [List.length_map,List.length_range]
 exact Nat.le_refl _
abbrev q2 (ns:List Int) : List (Str × V):=pf "total" (.int ns.sum) (pf "purses" (.int (ns.map V.int).length) [])
abbrev q3 (ns:List Int) (ly:Addr) : List (Str × V):=pf "lying" (.ref ly) (q2 ns)
abbrev q4 (ns:List Int) (ly ch:Addr) : List (Str × V):=pf "cheating" (.ref ch) (q3 ns ly)
abbrev q5 (ns:List Int) (ly ch D:Addr) : List (Str × V):=pf "keepers" (.ref D) (q4 ns ly ch)
abbrev q6 (ns:List Int) (ly ch D b:Addr) : List (Str × V):=pf "board" (.ref b) (q5 ns ly ch D)
abbrev q7 (ns:List Int) (ly ch D b ak:Addr) : List (Str × V):=pf "asked" (.ref ak) (q6 ns ly ch D b)
def jz4 (K:PySem.W.Frag) (t:Ad) : Sp:=fun vs H Q _=>∃ ρ id x dx h f sa ns la ca cs ls,vs = [.ref x,.int h,.int f,.ref sa,.ref la,.ref ca] ∧ H x = some (.ins t.jy dx []) ∧ ρ x = some (id,.x) ∧ OkR ρ H ∧ (1 ≤ h ∧ h ≤ 16) ∧ (0 ≤ f ∧ f ≤ 5) ∧ 3 * f < h ∧
 H sa = some (.lst ((ns:List Int).map V.int)) ∧ (∀ r,ρ sa = some r → ¬ allI id r) ∧ 2 ≤ ns.length ∧ ns.length ≤ 8 ∧ (∀ i ∈ ns,0 ≤ i ∧ i ≤ 1000) ∧ jlt K H ρ id la ls ∧ ls.Pairwise (· < ·) ∧ (∀ k ∈ ls,0 ≤ k ∧ k < h) ∧ (ls.length:Int) ≤ f ∧ jlt K H ρ id ca cs ∧ cs.Pairwise (· < ·) ∧ (∀ k ∈ cs,0 ≤ k ∧ k < (ns.length:Int)) ∧
 ∀ ρ' H' W,W.x = x → W.tot = ns.sum → qo t H' ρ' id W (w0 h f ns cs ls) → (H' W.ly = some (.lst (ls.map V.int)) ∧ ρ' W.ly = none) → Fr (allI id) ρ H ρ' H' → OkR ρ' H' → Q .non H'
set_option maxHeartbeats 0 in
theorem jmc (T:Txt K mg t) : yf P w K mg base CX0 6 t.gp t.jbq ["self","houses","few","sums","liars","cheats"] (jz4 K t):=by
  refine T.jf9.ok jls (fun vs H Q E h=>?_) (fun cdv A outer s H vs Q E hr h=>?_)
  · obtain ⟨ρ,id,x,dx,h,f,sa,ns,la,ca,cs,ls,rfl,_⟩:=h
    rfl
  · obtain ⟨ρ,id,x,dx,h,f,sa,ns,la,ca,cs,ls,rfl,hx,rx,kr,h1,f1,lt,hs,nsa,l2,l8,rg,ula,upl,rgl,llf,uca,up,rgc,k⟩:=h
    have hla:=ula.at_
    have hca:=uca.at_
    refine ⟨_,(@jb _ _ _ _ _ (qe (jic (jo7 T) hr.dn rfl T.ji9 T.jec.kp T.jga jr (jc (pv 1) jf) (jdc (pv 2) (jdc (pv 4) job))))
      (@jb _ _ _ _ _ (qe (jic (jpr T) hr.dn rfl T.ji5 T.jel.kp T.jf7 jr (jc (pv 3) jf) (jdc (pv 5) job)))
      (@jb _ _ _ _ _ (jag (pv 0) (jt jz rfl T.jeo boot_len (jc (pv 3) jf)) rfl)
      (@jb _ _ _ _ _ (jag (pv 0) (jt (jvw rfl) rfl T.j1v boot_sum (jc (pv 3) jf)) rfl)
      (@jb _ _ _ _ _ (jag (pv 0) (jc0 vo rfl T.jiz boot_list (jc (pv 4) jf)) rfl)
      (@jb _ _ _ _ _ (jag (pv 0) (jc0 vo rfl T.jiz boot_list (jc (pv 5) jf)) rfl)
      (@jb _ _ _ _ _ (jag (pv 0) (j0f (.dK []) (.inl rfl) (jol hr) (N':=["house","sums","liars"]) (ix:=[none,some 3,some 4]) (gh (by kernel_rfl)) rfl (jex rfl T.jjj (jc (pv 1) jf)) (fun _ _ _ _=>(ju (i:=0) j7p rfl (Or.inl rfl) (.inr rfl))) (fun _ _ _ _=>(jl4 (jw (jk9 (K:=K) rfl) (pv 0) (pv 2) (by with_unfolding_all rfl)))) (fun _ _ _ _=>(pv 0)) (fun _ _ _ _=>(jw1 T.jth (jli T) hr.dn rfl T.ju2 T.jeq .nil jr (jc (pv 1) jf)))) rfl)
      (@jb _ _ _ _ _ (jag (pv 0) (jw1 T.jvi (jly T) hr.dn rfl T.jyd T.jgd .nil jr (jc (jic (jtt T) hr.dn rfl T.jpp T.jj4.kp T.jku jr (jc (pv 1) jf) (jdc (pv 2) job)) jf)) rfl)
      (@jb _ _ _ _ _ (jag (pv 0) (jd0 (N':=["each"]) (ix:=[none]) (gh (by kernel_rfl)) rfl (@jbh _ _ _ _ (pv 3)) (fun _ _ _ _=>(ju (i:=0) j8a rfl (Or.inl rfl) (.inr rfl))) (fun _ _ _ _=>jrl) (fun _ _ _ _=>(@zk _ _ _ _ jf))) rfl)
      (@jd _ _ _ (jag (pv 0) (@zk _ _ _ _ jf) rfl))))))))))),?_⟩
    refine ⟨_,rfl,_,rfl,_,rfl,h,f,la,ls,rfl,h1,f1,lt,hla,upl,rgl,llf,fun H1 s1=>?_⟩
    refine ⟨_,rfl,_,rfl,sa,ns,ca,cs,rfl,s1 _ _ hs,l2,l8,rg,hca.same s1,up,rgc,fun H2 s2=>?_⟩
    have m2:MkW t ρ H id x dx [] ρ H2:=MkW.tmp ⟨hx,rx,Fr.refl,kr⟩ (s1.trans s2)
    have sa_ : ∀ {ρ' H' fs},MkW t ρ H id x dx fs ρ' H' → H' sa = some (.lst (ns.map V.int)):=fun m=>(m.fr _ _ hs nsa).1
    have la_ : ∀ {ρ' H' fs},MkW t ρ H id x dx fs ρ' H' → y4 K H' la ls:=fun m=>ula.fr m.fr
    have ca_ : ∀ {ρ' H' fs},MkW t ρ H id x dx fs ρ' H' → y4 K H' ca cs:=fun m=>uca.fr m.fr
    refine ⟨_,rfl,sa,_,rfl,.inl (SqL.of (sa_ m2)),_,rfl,x,_,dx,_,rfl,m2.ob,T.ji,T.vk,(by show 0 < 1000; decide),?_⟩
    have m3:=m2.obj (fs':=pf "purses" (.int (ns.map V.int).length) [])
    dsimp only
    generalize upd H2 x (.ins t.jy dx (pf "purses" (.int (ns.map V.int).length) [])) = G3 at m3
    refine ⟨_,rfl,sa,ns,rfl,SqL.of (sa_ m3),_,rfl,x,_,dx,_,rfl,m3.ob,T.ji,T.ji6,(by show 1 < 1000; decide),?_⟩
    have m4:=m3.obj (fs':=q2 ns)
    dsimp only
    generalize upd G3 x (.ins t.jy dx (q2 ns)) = G4 at m4
    refine ⟨_,rfl,la,_,rfl,(la_ m4).sq,fun ly nly=>?_⟩
    have m5:=m4.tmp (jg (o:=.lst (ls.map V.int)) nly)
    have l5:upd G4 ly (.lst (ls.map V.int)) ly = some (.lst (ls.map V.int)) ∧ ρ ly = none:=⟨ja,m4.kr.none nly⟩
    refine ⟨_,rfl,x,_,dx,_,rfl,m5.ob,T.ji,T.jei,(by show 2 < 1000; decide),?_⟩
    have m6:=m5.obj (fs':=q3 ns ly)
    have l6:=jp7 (m5.fo (fs':=q3 ns ly)) l5.1 l5.2
    dsimp only
    generalize upd (upd G4 ly (.lst (ls.map V.int))) x (.ins t.jy dx (q3 ns ly)) = G6 at m6 l6
    refine ⟨_,rfl,ca,_,rfl,(ca_ m6).sq,fun ch nch=>?_⟩
    have m7:=m6.tmp (jg (o:=.lst (cs.map V.int)) nch)
    have c7:Two (upd G6 ch (.lst (cs.map V.int))) ρ ch ly cs ls:=⟨⟨ja,m6.kr.none nch⟩,jp7 (P:=fun _=>False) (Fr.same (jg nch)) l6.1 l6.2⟩
    refine ⟨_,rfl,x,_,dx,_,rfl,m7.ob,T.ji,T.ya,(by show 3 < 1000; decide),?_⟩
    have m8:=m7.obj (fs':=q4 ns ly ch)
    have c8:=c7.fr (m7.fo (fs':=q4 ns ly ch))
    dsimp only
    generalize upd (upd G6 ch (.lst (cs.map V.int))) x (.ins t.jy dx (q4 ns ly ch)) = G8 at m8 c8
    clear m2 m3 m4 m5 m6 m7 c7 nly nch l5 l6
    refine ⟨_,rfl,h,rfl,(by omega),(by omega),fun D nD=>?_⟩
    have m9:=m8.new (r:=(id,.kd)) nD (u:=.dK [])
    have c9:Two (upd G8 D (.dK [])) (jaz ρ D (id,.kd)) ch ly cs ls:=c8.fr (P:=fun _=>False) (Fr.jnx nD)
    refine j0w (lo:=0) (n:=h.toNat) (fun i σ H'=>∃ v kvs ρ',σ = [v,some (.ref sa),some (.ref la)] ∧ MkW t ρ H id x dx (q4 ns ly ch) ρ' H' ∧ Two H' ρ' ch ly cs ls ∧ ρ' D = some (id,.kd) ∧ H' D = some (.dK kvs) ∧ yr t H' ρ' id kvs ((jbx ls i).map fun i=>(i,kp0 ns))) ⟨none,[],_,rfl,m9,c9,zm,ja,.nil⟩ ?_ ?_
    · rintro i σ H' hi ⟨v,kvs,ρ',rfl,m,hc,rD,hD,ks⟩
      have e0:(0:Int) + (i:Int) = i:=Int.zero_add _
      rw [e0]
      refine ⟨_,rfl,_,rfl,la,_,rfl,(la_ m).sq,rfl,jda _,_,rfl,jgn (fun zz=>?_) (fun zz=>?_)⟩
      rotate_left
      · have nl:(i:Int) ∈ ls:=by
          rw [if_pos rfl,ur] at zz
          simpa using zz
        refine ⟨_,kvs,ρ',rfl,m,hc,rD,hD,?_⟩
        rw [jk4,if_pos nl,List.append_nil]
        exact ks
      have nl : ¬ (i:Int) ∈ ls:=by
        rw [if_pos rfl,ur] at zz
        simpa using zz
      refine ⟨_,rfl,_,rfl,fun k dk nk ndk ne=>?_⟩
      have sk:wz H' (upd H' dk (.own k)):=jg ndk
      have nk1:upd H' dk (.own k) k = none:=by rw [je ne.symm]; exact nk
      have f1:Fr (fun _=>False) ρ' H' (jaz ρ' k (id,.kp i 0)) (upd (upd H' dk (.own k)) k (.ins t.j3 dk [])):=(Fr.same sk).trans (Fr.jnx nk1)
      have kr1:OkR (jaz ρ' k (id,.kp i 0)) (upd (upd H' dk (.own k)) k (.ins t.j3 dk [])):=(m.kr.same sk).jnx
      have m1:=m.step f1 (fun z=>z) (fun _ z=>z.elim) kr1
      refine ⟨_,id,(i:Int),k,dk,sa,ns,rfl,ja,zm,kr1,sa_ m1,by omega,fun ρ2 H2' A2 R2 f2 kr2=>⟨rfl,?_⟩⟩
      have f12:Fr (isK id i) ρ' H' ρ2 H2':=(f1.mono fun _ z=>z.elim).trans f2
      have nk2 : ∀ {p:Part},(∀ j,p ≠ .kp (i:Int) j) → ¬ isK id (i:Int) (id,p):=fun hp ⟨j,e⟩=>hp j (Prod.mk.inj e).2
      have mm:=m.step f12 (nk2 fun _ z=>by cases z) (fun r ⟨j,e⟩=>by rw [e]) kr2
      have hc2:=hc.fr f12
      obtain ⟨hD2,rD2⟩:=jej f12 hD rD (nk2 fun _ z=>by cases z)
      have ks2:yr t H2' ρ2 id kvs ((jbx ls i).map fun i=>(i,kp0 ns)):=yr.fr' f12 (fun c hc j=>by
        obtain ⟨i',hi',rfl⟩:=List.mem_map.mp hc
        have:=jrj hi'
        refine nk2 fun j' z=>?_
        have:i' = (i:Int):=(Part.kp.inj z).1
        omega) ks
      have nv:jgm kvs (.inl (i:Int)) = none:=by
        cases e:jgm kvs (.inl (i:Int)) with
        | none=>rfl
        | some v=>
          exfalso
          have hm:=j2o e
          obtain ⟨j,hj,ej⟩:=List.mem_iff_getElem.mp hm
          rw [List.length_map] at hj
          obtain ⟨c,ec,e1,_⟩:=qi ks2 (List.getElem?_eq_getElem hj)
          rw [List.getElem_map] at ej
          rw [e1] at ej
          obtain ⟨i',hi',rfl⟩:=List.mem_map.mp (List.mem_of_getElem? ec)
          have:=jrj hi'
          have:i' = (i:Int):=Sum.inl.inj ej
          omega
      have lk:kvs.length ≤ 1000:=by
        rw [Paired.length ks2,List.length_map]
        have:=jq6 ls i
        omega
      refine ⟨_,jwx.k (k:=.inl (i:Int)) hD2 (xt lk),?_⟩
      rw [jn3 _ nv]
      have f3:Fr (isP id .kd) ρ2 H2' ρ2 (upd H2' D (.dK (kvs ++ [(.inl (i:Int),.ref k)]))):=Fr.put rD2 rfl
      refine ⟨_,_,ρ2,rfl,mm.step f3 jv (fun r e=>by rw [e]) kr2.put,hc2.fr f3,rD2,ja,?_⟩
      rw [jk4,if_neg nl,List.map_append]
      exact qy (yr.fr f3 (fun _ _=>jv) ks2) ⟨rfl,k,A2,dk,rfl,R2.fr (fun _=>jv) f3⟩
    · rintro σ G10 ⟨v,kvs,ρ1,rfl,m10,c10,rD,hD,ks⟩
      clear m8 c8 m9 c9 nD
      refine ⟨_,rfl,x,_,dx,_,rfl,m10.ob,T.ji,T.ze,(by show 4 < 1000; decide),?_⟩
      have m11:=m10.obj (fs':=q5 ns ly ch D)
      have fo11:=m10.fo (fs':=q5 ns ly ch D)
      have c11:=c10.fr fo11
      have k11:=ue fo11 jv (fun _ _=>jv) rD ⟨kvs,hD,ks⟩
      dsimp only
      generalize upd G10 x (.ins t.jy dx (q5 ns ly ch D)) = G11 at m11 c11 k11
      clear fo11 m10 c10
      refine ⟨_,rfl,_,rfl,h,f,rfl,fun b db nb ndb neb=>?_⟩
      have sb:wz G11 (upd G11 db (.own b)):=jg ndb
      have nb1:upd G11 db (.own b) b = none:=by rw [je neb.symm]; exact nb
      refine ⟨b,db,h - f,rfl,ja,fun S G12 nS B fr=>⟨rfl,?_⟩⟩
      have nS0:G11 S = none:=by
        have nSb:S ≠ b:=fun z=>by rw [z,ja] at nS; cases nS
        rw [je nSb] at nS
        exact sb.free nS
      have s12:wz G11 G12:=fun c u e=>fr _ _ (by rw [je (jk (sb _ _ e) nb1)]; exact sb _ _ e) (jk e nb)
      have bS:b ≠ S:=jlw B.ob B.sg (by intro z; cases z)
      have f12:Fr (fun _=>False) ρ1 G11 (jaz (jaz ρ1 b (id,.bd)) S (id,.sd)) G12:=fun a u e _=>⟨s12 _ _ e,by rw [xl (jk e nS0),xl (jk e nb)]⟩
      have kr12:OkR (jaz (jaz ρ1 b (id,.bd)) S (id,.sd)) G12:=fun a r e=>by
        by_cases z:a = S
        · subst z
          exact ⟨_,B.sg,True.intro⟩
        · rw [xl z] at e
          by_cases y:a = b
          · subst y
            exact ⟨_,B.ob,True.intro⟩
          · rw [xl y] at e
            obtain ⟨u,hu,nu⟩:=m11.kr a r e
            exact ⟨u,s12 _ _ hu,nu⟩
      have m12:=m11.step f12 (fun z=>z) (fun _ z=>z.elim) kr12
      have c12:=c11.fr f12
      have k12:=ue f12 (fun z=>z) (fun _ _ z=>z) k11.1 k11.2
      have b12:(jaz (jaz ρ1 b (id,.bd)) S (id,.sd)) b = some (id,.bd) ∧ (jaz (jaz ρ1 b (id,.bd)) S (id,.sd)) S = some (id,.sd) ∧ ∃ kvs,yz t G12 b db S (h - f) kvs (thP []) ∧ jzn (jaz (jaz ρ1 b (id,.bd)) S (id,.sd)) id kvs:=⟨by rw [xl bS,zm],zm,[],B,fun _ z=>by cases z⟩
      generalize jaz (jaz ρ1 b (id,.bd)) S (id,.sd) = ρ2 at m12 c12 k12 b12 kr12 f12
      clear m11 c11 k11 f12 kr12
      refine ⟨_,rfl,x,_,dx,_,rfl,m12.ob,T.ji,T.yy,(by show 5 < 1000; decide),?_⟩
      have m13:=m12.obj (fs':=q6 ns ly ch D b)
      have fo:=m12.fo (fs':=q6 ns ly ch D b)
      have c13:=c12.fr fo
      have k13:=ue fo jv (fun _ _=>jv) k12.1 k12.2
      have b13:=jbf fo jv jv jv b12.1 b12.2.1 b12.2.2
      dsimp only
      generalize upd G12 x (.ins t.jy dx (q6 ns ly ch D b)) = G13 at m13 c13 k13 b13
      clear m12 c12 k12 b12 fo
      have hsa:=sa_ m13
      refine ⟨_,rfl,sa,rfl,⟨_,SqL.of hsa⟩,jpk (K:=K) (a:=sa) (xs:=ns.map V.int) (fun i ys σ H'=>∃ v rr ρ',σ = [v] ∧ ys = rr.map V.ref ∧ rr.length = i ∧ MkW t ρ H id x dx (q6 ns ly ch D b) ρ' H' ∧ Fr (fun _=>False) ρ2 G13 ρ' H' ∧ ∀ (j:Nat) r,rr[j]? = some r → ρ' r = some (id,.row j) ∧ H' r = some (.lst [])) ⟨none,[],ρ2,rfl,rfl,rfl,m13,Fr.refl,fun j r e=>by cases e⟩ ?_ ?_ ?_⟩
      · rintro i ys σ H' hi ⟨v,rr,ρ',rfl,rfl,lr,mm,ff,hrr⟩
        rw [List.length_map] at hi
        refine ⟨SqL.of (sa_ mm),jmm ?_⟩
        rw [List.length_map]
        omega
      · rintro i y ys σ H' hy ⟨v,rr,ρ',rfl,rfl,lr,mm,ff,hrr⟩
        dsimp only [jom,j39]
        rw [if_pos rfl]
        refine ⟨zs0,fun p np=>⟨_,rr ++ [p],jaz ρ' p (id,.row i),rfl,?_,?_,mm.new np,ff.trans (Fr.jnx np),fun j r e=>?_⟩⟩
        · rw [List.map_append]; rfl
        · rw [List.length_append,lr]; rfl
        · by_cases z:j < rr.length
          · rw [List.getElem?_append_left z] at e
            obtain ⟨q1,q2⟩:=hrr j r e
            have:r ≠ p:=jk q2 np
            exact ⟨by rw [xl this]; exact q1,by rw [je this]; exact q2⟩
          · rw [List.getElem?_append_right (by omega)] at e
            have j0:j = rr.length:=by
              have:=(List.getElem?_eq_some_iff.mp e).1
              simp at this
              omega
            subst j0
            rw [Nat.sub_self] at e
            cases e
            rw [lr]
            exact ⟨zm,ja⟩
      · rintro ys σ H' ⟨v,rr,ρ3,rfl,rfl,lr,m14,f14,hrr⟩ ak nak
        rw [List.length_map] at lr
        have c14:=c13.fr f14
        have k14:=ue f14 (fun z=>z) (fun _ _ z=>z) k13.1 k13.2
        have b14:=jbf f14 (fun z=>z) (fun z=>z) (fun z=>z) b13.1 b13.2.1 b13.2.2
        have f15:Fr (fun _=>False) ρ3 H' (jaz ρ3 ak (id,.ak)) (upd H' ak (.lst (rr.map V.ref))):=Fr.jnx nak
        have m15:=m14.new (r:=(id,.ak)) nak (u:=.lst (rr.map V.ref))
        have c15:=c14.fr f15
        have k15:=ue f15 (fun z=>z) (fun _ _ z=>z) k14.1 k14.2
        have b15:=jbf f15 (fun z=>z) (fun z=>z) (fun z=>z) b14.1 b14.2.1 b14.2.2
        have a15:(jaz ρ3 ak (id,.ak)) ak = some (id,.ak) ∧ ∃ rs,upd H' ak (.lst (rr.map V.ref)) ak = some (.lst (rs.map V.ref)) ∧ jrh (upd H' ak (.lst (rr.map V.ref))) (jaz ρ3 ak (id,.ak)) id rs (List.replicate ns.length []):=by
          refine ⟨zm,rr,ja,by rw [lr,List.length_replicate],fun i r os e1 e2=>?_⟩
          obtain ⟨q1,q2⟩:=hrr i r e1
          obtain ⟨q3,q4⟩:=jej f15 q2 q1 (fun z=>z)
          have:os = []:=List.eq_of_mem_replicate (List.mem_of_getElem? e2)
          subst this
          exact ⟨q4,[],q3,.nil⟩
        generalize jaz ρ3 ak (id,.ak) = ρ4 at f15 m15 c15 k15 b15 a15
        refine ⟨_,rfl,x,_,dx,_,rfl,m15.ob,T.ji,T.jas,(by show 6 < 1000; decide),?_⟩
        have m16:=m15.obj (fs':=q7 ns ly ch D b ak)
        have fo:=m15.fo (fs':=q7 ns ly ch D b ak)
        have c16:=c15.fr fo
        have k16:=ue fo jv (fun _ _=>jv) k15.1 k15.2
        have b16:=jbf fo jv jv jv b15.1 b15.2.1 b15.2.2
        have a16:=jfp fo jv (fun _=>jv) a15.1 a15.2
        dsimp only
        generalize upd (upd H' ak (.lst (rr.map V.ref))) x (.ins t.jy dx (q7 ns ly ch D b ak)) = G16 at m16 c16 k16 b16 a16
        refine ⟨zs0,fun wy nwy=>?_⟩
        have f17:Fr (fun _=>False) ρ4 G16 (jaz ρ4 wy (id,.wy)) (upd G16 wy (.lst [])):=Fr.jnx nwy
        have m17:=m16.new (r:=(id,.wy)) nwy (u:=.lst [])
        have c17:=c16.fr f17
        have k17:=ue f17 (fun z=>z) (fun _ _ z=>z) k16.1 k16.2
        have b17:=jbf f17 (fun z=>z) (fun z=>z) (fun z=>z) b16.1 b16.2.1 b16.2.2
        have a17:=jfp f17 (fun z=>z) (fun _ z=>z) a16.1 a16.2
        refine ⟨_,rfl,x,_,dx,_,rfl,m17.ob,T.ji,T.qq,(by show 7 < 1000; decide),?_⟩
        have m18:=m17.obj (fs':=wof (ns.map V.int).length ns.sum ly ch D b ak wy)
        have fo18:=m17.fo (fs':=wof (ns.map V.int).length ns.sum ly ch D b ak wy)
        have c18:=c17.fr fo18
        have k18:=ue fo18 jv (fun _ _=>jv) k17.1 k17.2
        have b18:=jbf fo18 jv jv jv b17.1 b17.2.1 b17.2.2
        have a18:=jfp fo18 jv (fun _=>jv) a17.1 a17.2
        have y18:=jt7 (way:=[]) fo18 jv zm ⟨[],ja,.nil⟩
        refine k _ _ ⟨x,dx,ns.sum,ly,ch,D,b,ak,wy,db,S⟩ rfl rfl ⟨⟨?_,m18.rx⟩,c18.c,k18,b18,a18,y18⟩ c18.l m18.fr m18.kr
        refine (m18.ob).trans ?_
        show some (HO.ins t.jy dx (wof ((ns.map V.int).length:Int) ns.sum ly ch D b ak wy)) = some (HO.ins t.jy dx (wof (ns.length:Int) ns.sum ly ch D b ak wy))
        rw [List.length_map]
theorem jjq (T:Txt K mg t) : yf P w K mg base CX0 3 t.uy t.um ["self","liar"] (fun vs H Q _=>∃ ρ id W ω h ls,vs = [.ref W.x,.int h] ∧ qo t H ρ id W ω ∧ H W.ly = some (.lst ((ls:List Int).map V.int)) ∧ h ∈ ls ∧ Q .non H):=by
 refine T.jd1.ok jj7 (fun vs H Q E h=>?_) (fun cdv A outer s H vs Q E hr h=>?_)
 ·obtain ⟨ρ,id,W,ω,h,ls,rfl,_⟩:=h
  rfl
 ·obtain ⟨ρ,id,W,ω,h,ls,rfl,O,hl,hm,g⟩:=h
  refine ⟨_,(@jd _ _ _ (zo (PW.pt (jko (yi (xb (jq (jjz T) hr.dn rfl T.jh4 T.jey.kp T.jhz .nil jr (jc (pv 1) jf)))) (je7 (jw jdp (pv 1) (j9 (pv 0) rfl) (by with_unfolding_all rfl))))) qx qc)),?_⟩
  refine ⟨_,rfl,h,rfl,_,rfl,pq ?_⟩
  refine ⟨_,rfl,_,rfl,W.x,_,W.dx,_,_,rfl,O.ob.1,T.ji,T.jei,jy3,W.ly,_,rfl,.inl (SqL.of hl),rfl,jda _,_,rfl,?_⟩
  rw [if_pos rfl,ur,decide_eq_true hm]
  exact pq g
theorem jyl {K:W.Frag} {H:Hp} {ρ : Rho} {xs:List V} {os:List O} (p:Paired (zj H ρ) xs os) : Paired (jza K H) xs (os.map vu):=by
 induction p with
 | nil=>exact .nil
 | cons h _ ih=>
  obtain ⟨a,e,_,q⟩:=h
  exact .cons ⟨a,e,SqT.of q⟩ ih
def Wd.may (ω : Wd) (o:O) : Prop:=o.p ∈ ω.ja6 ∨ ∃ row,ω.asked[o.p.toNat]? = some row ∧ o ∈ row
theorem jgv (T:Txt K mg t) : yf P w K mg base CX0 6 t.jji t.jjp ["self","liar","order"] (fun vs H Q _=>∃ ρ id W ω h q o ls a b c,vs = [.ref W.x,.int h,.ref q] ∧ qo t H ρ id W ω ∧ OkR ρ H ∧ H W.ly = some (.lst ((ls:List Int).map V.int)) ∧ h ∈ ls ∧ zj H ρ (.ref q) o ∧ xk ω.n o = true ∧ ω.may o ∧ Sz ω a b c ∧ a + 1 ≤ 1000 ∧ b + 1 ≤ 1000 ∧ c + 16 ≤ 100000 ∧
  ∀ ρ' H',qo t H' ρ' id W (ω.zq h [o]) → Fr (j3m id) ρ H ρ' H' → OkR ρ' H' → Q .non H'):=by
 refine T.jpq.ok jtr (fun vs H Q E h=>?_) (fun cdv A outer s H vs Q E hr h=>?_)
 ·obtain ⟨ρ,id,W,ω,h,q,o,ls,a,b,c,rfl,_⟩:=h
  rfl
 ·obtain ⟨ρ,id,W,ω,h,q,o,ls,a,b,c,rfl,O,kr,hl,hm,uq,ho,may,sz,la,lb,lc,g⟩:=h
  refine ⟨_,(@jb _ _ _ _ _ (qe (j6 (pv 0) T.ji T.jdn (jjq T) hr.dn T.jdr .nil jr (jc (pv 1) jf)))
   (@jb _ _ _ _ _ (qe (j6 (pv 0) T.ji T.w4 (jb0 T) hr.dn T.kc .nil jr (jc (pv 2) jf)))
   (@jb _ _ _ _ _ (zo (PW.pt (jiy (jw jdp (jai ji2 (pv 2) jn (fun _ _=>rfl)) (j9 (pv 0) rfl) (by with_unfolding_all rfl)) (jfr (jw (jse hr.units) (pv 2) (jai gc (j9 (pv 0) rfl) (jai ji2 (pv 2) jn (fun _ _=>rfl)) (fun _ _=>rfl)) (by with_unfolding_all rfl))))) qx qc)
   (@jd _ _ _ (qe (j6 (pv 0) T.ji T.y0 (uv T) hr.dn T.v9 .nil jr (@v8 _ _ _ _ _ (pv 1) (@zk _ _ _ _ (jc (pv 2) jf)) rfl rfl))))))),?_⟩
  have uq':=uq
  obtain ⟨_,eq,nq,hq⟩:=uq'
  cases eq
  refine ⟨_,rfl,W.x,W.dx,_,rfl,O.ob.1,qv,_,rfl,ρ,id,W,ω,h,ls,rfl,O,hl,hm,?_⟩
  refine ⟨_,rfl,W.x,W.dx,_,rfl,O.ob.1,qv,_,rfl,ρ,id,W,ω,q,o,rfl,O,hq,ho,?_⟩
  refine ⟨_,rfl,q,jn9 o,0,.int o.p,rfl,rfl,SqT.of hq,rfl,_,rfl,W.x,_,W.dx,_,_,rfl,O.ob.1,T.ji,T.ya,jhi,W.ch,_,rfl,.inl (SqL.of O.ch.1),rfl,jda _,_,rfl,?_⟩
  rw [if_pos rfl,ur]
  refine jgn (fun z=>?_) (fun _=>pq ?_)
  rotate_left
  ·refine ⟨_,rfl,W.x,W.dx,_,rfl,O.ob.1,qv,_,rfl,_,rfl,zs1,fun L nL=>?_⟩
   have s1:=jg (o:=.lst [.ref q]) nL
   refine ⟨ρ,id,W,ω,h,L,[.ref q],[o],a,b,c,rfl,O.fr (P:=fun _=>False) (fun _ z=>z) (Fr.same s1),kr.same s1,ja,fun ro e=>?_,.cons (uq.fr (P:=fun _=>False) (Fr.same s1)) .nil,sz,la,lb,lc,fun ρ' H' O' f' kr'=>g ρ' H' O' ((Fr.same s1).trans f') kr'⟩
   rw [kr.none nL] at e
   cases e
  have nc:o.p ∉ ω.ja6:=by simpa using z
  obtain ⟨row,er,om⟩ : ∃ row,ω.asked[o.p.toNat]? = some row ∧ o ∈ row:=may.resolve_left nc
  obtain ⟨ra,rs,ha,hrows⟩:=O.ak
  obtain ⟨r,ers⟩ : ∃ r,rs[o.p.toNat]? = some r:=⟨_,List.getElem?_eq_getElem (by rw [hrows.1]; exact (List.getElem?_eq_some_iff.mp er).1)⟩
  obtain ⟨rr,xs,hr0,px⟩:=hrows.2 _ _ _ ers er
  have p0 : 0 ≤ o.p:=(zy.mp ho).1
  refine ⟨_,rfl,_,rfl,W.x,_,W.dx,_,_,rfl,O.ob.1,T.ji,T.jas,jtx,_,rfl,q,jn9 o,0,.int o.p,rfl,rfl,SqT.of hq,rfl,W.ak,_,o.p,.ref r,rfl,rfl,SqL.of ha,jhn p0 (by rw [List.getElem?_map,ers]; rfl),?_⟩
  refine ⟨r,xs,vu o,row.map vu,rfl,SqL.of hr0,⟨q,rfl,SqT.of hq⟩,jyl px,_,rfl,?_⟩
  rw [if_pos rfl,decide_eq_true (List.mem_map_of_mem om)]
  refine pq ?_
  refine ⟨_,rfl,W.x,W.dx,_,rfl,O.ob.1,qv,_,rfl,_,rfl,zs1,fun L nL=>?_⟩
  have s1:=jg (o:=.lst [.ref q]) nL
  refine ⟨ρ,id,W,ω,h,L,[.ref q],[o],a,b,c,rfl,O.fr (P:=fun _=>False) (fun _ z=>z) (Fr.same s1),kr.same s1,ja,fun ro e=>?_,.cons (uq.fr (P:=fun _=>False) (Fr.same s1)) .nil,sz,la,lb,lc,fun ρ' H' O' f' kr'=>g ρ' H' O' ((Fr.same s1).trans f') kr'⟩
  rw [kr.none nL] at e
  cases e
theorem jrd (T:Txt K mg t) : yf P w K mg base CX0 6 t.jhm t.jhb ["self","order","house"] (fun vs H Q _=>∃ ρ id W ω q o h κ,vs = [.ref W.x,.ref q,.int h] ∧ qo t H ρ id W ω ∧ OkR ρ H ∧ zj H ρ (.ref q) o ∧ xk ω.n o = true ∧ ω.keep h = some κ ∧ ω.carried o = true ∧ ω.way.length ≤ 100000 ∧
  ∀ H',qo t H' ρ id W { ω with way:=ω.way ++ [(false,h,o)] } → Fr (isP id .wy) ρ H ρ H' → OkR ρ H' → Q .non H'):=by
 refine T.jm1.ok jrs (fun vs H Q E h=>?_) (fun cdv A outer s H vs Q E hr h=>?_)
 ·obtain ⟨ρ,id,W,ω,q,o,h,κ,rfl,_⟩:=h
  rfl
 ·obtain ⟨ρ,id,W,ω,q,o,h,κ,rfl,O,kr,uq,ho,ek,ecr,l,g⟩:=h
  refine ⟨_,(@jb _ _ _ _ _ (qe (j6 (pv 0) T.ji T.zd (xp T) hr.dn T.zw .nil jr (jc (pv 2) jf)))
   (@jb _ _ _ _ _ (zo (PW.pt (jko (yi (xb (jic (jkc T) hr.dn rfl T.jh7 T.jez.kp T.jgs jr (jc (pv 1) jf) (jdc (j9 (pv 0) rfl) job)))) (je7 (yi (xb (j6 (j9 (pv 0) rfl) T.yj T.yl (ko T) hr.dn T.y3 .nil jr (jc (pv 1) jf))))))) qx qc)
   (@jd _ _ _ (qe (jj0 PySem.F.plainAttrs_list PySem.F.slot_list_append PySem.F.type_list_append vq (j9 (pv 0) rfl) (jc (@jm0 _ _ _ _ _ (@jmy _ _ _ _ _ _ _ (zc (v:=.str "paper") rfl T.jem.choose_spec ⟨_,rfl⟩) (pv 2) (pv 1) rfl rfl rfl)) jf)))))),?_⟩
  have uq':=uq
  obtain ⟨_,eq,nq,hq⟩:=uq'
  cases eq
  refine ⟨_,rfl,W.x,W.dx,_,rfl,O.ob.1,qv,_,rfl,ρ,id,W,ω,h,κ,rfl,O,ek,fun k A' dk R=>?_⟩
  refine ⟨_,rfl,_,rfl,W.x,_,W.dx,_,_,rfl,O.ob.1,T.ji,T.vk,jl6,q,o,(ω.n:Int),rfl,hq,_,rfl,?_⟩
  rw [ho]
  refine pq ?_
  obtain ⟨rb,rS,bvs,B,sg⟩:=O.bd
  refine ⟨_,rfl,W.x,_,W.dx,_,_,rfl,O.ob.1,T.ji,T.yy,jkt,W.bd,W.db,_,rfl,B.ob,jsx _ _ (by decide +kernel) (by decide +kernel),_,rfl,W.bd,W.db,W.S,ω.en,bvs,thP ω.bd,q,jn4 o,rfl,B.rd,hq,fun H1 s1=>⟨_,rfl,?_⟩⟩
  have ec:decide (ω.en ≤ ((qj (thP ω.bd) (jn4 o)).length:Int)) = ω.carried o:=by
   unfold Wd.carried
   rw [show qj (thP ω.bd) (jn4 o) = jx ω.bd (vu o) from jep (vu o) ω.bd]
  rw [ec,ecr]
  refine pq ?_
  have O1:=O.fr (P:=fun _=>False) (fun _ z=>z) (Fr.same s1)
  have kr1:=kr.same s1
  have uq1:=uq.fr (P:=fun _=>False) (Fr.same s1)
  have f1:Fr (isP id .wy) ρ H ρ H1:=Fr.same s1
  obtain ⟨rw_,xs,hw,pw⟩:=O1.wy
  refine ⟨_,rfl,W.x,_,W.dx,_,_,rfl,O1.ob.1,T.ji,T.qq,jak,.inl ⟨rfl,_,SqL.of hw⟩,_,rfl,_,rfl,zs3,fun p np=>?_⟩
  have sp:=jg (o:=.tup [.str "paper",.int h,.ref q]) np
  have lx:xs.length ≤ 1000000:=by rw [Paired.length pw]; omega
  refine ⟨W.wy,xs,.ref p,rfl,rfl,sp _ _ hw,big lx,?_⟩
  have O2:=O1.fr (P:=fun _=>False) (fun _ z=>z) (Fr.same sp)
  have f2:Fr (isP id .wy) ρ (upd H1 p (.tup [.str "paper",.int h,.ref q])) ρ (upd (upd H1 p (.tup [.str "paper",.int h,.ref q])) W.wy (.lst (xs ++ [.ref p]))):=Fr.put rw_ rfl
  have f0:Fr (isP id .wy) ρ H1 ρ (upd H1 p (.tup [.str "paper",.int h,.ref q])):=Fr.same sp
  refine g _ (O2.but f2 _ jv rfl rfl (ue f2 jv (fun _ _=>jv)) (jbf f2 jv jv jv) (jfp f2 jv (fun _=>jv)) (fun _ _=>⟨rw_,_,ja,?_⟩)) ((f1.trans f0).trans f2) (kr1.same sp).put
  have np0:=kr1.none np
  refine qy (Paired.pz pw fun _ _=>jmu.fr (f0.trans f2)) ⟨p,q,rfl,np0,?_,uq1.fr (f0.trans f2)⟩
  rw [je (neu np0 rw_),ja]
  rfl
theorem yw {α : Type} [DecidableEq α] : ∀ {xs ys:List α},xs.Nodup → (∀ x ∈ xs,x ∈ ys) → xs.length ≤ ys.length
 | [],_,_,_=>Nat.zero_le _
 | x :: xs,ys,nd,h=>by
  rw [List.nodup_cons] at nd
  have hx:=h x List.mem_cons_self
  have:=yw (xs:=xs) (ys:=ys.erase x) nd.2 fun y hy=>(List.mem_erase_of_ne (fun z=>nd.1 (by rw [← z]; exact hy))).mpr (h y (List.mem_cons_of_mem _ hy))
  rw [List.length_erase_of_mem hx] at this
  have:=List.length_pos_of_mem hx
  rw [List.length_cons]
  omega
theorem j1w (κ : Kp) (o:O) (a:Gv) : (gvS κ o a).1.length + (gvS κ o a).2.2.length ≤ a.1.length + a.2.2.length + 1:=by
 unfold gvS
 split
 ·simp; omega
 ·split
  ·simp; omega
  ·omega
theorem jyi (κ : Kp) : ∀ (os:List O) (a:Gv),(gv κ os a).1.length + (gv κ os a).2.2.length ≤ a.1.length + a.2.2.length + os.length
 | [],a=>by simp [gv]
 | o :: os,a=>by
  have h1:=jyi κ os (gvS κ o a)
  have h2:=j1w κ o a
  unfold gv at h1 ⊢
  rw [List.foldl_cons,List.length_cons]
  omega
theorem jro (κ : Kp) {P:O → Prop} : ∀ (os:List O) (a:Gv),(∀ o ∈ os,P o) → (∀ o ∈ a.2.1,P o) → ∀ o ∈ (gv κ os a).2.1,P o
 | [],a,_,h=>h
 | o :: os,a,h1,h2=>by
  unfold gv
  rw [List.foldl_cons]
  refine jro κ os _ (fun o' h=>h1 o' (List.mem_cons_of_mem _ h)) ?_
  unfold gvS
  split
  ·intro o' h
   rcases List.mem_append.mp h with h | h
   ·exact h2 o' h
   ·rw [List.mem_singleton.mp h]
    exact h1 o List.mem_cons_self
  ·split
   ·exact h2
   ·exact h2
structure KIn (L:List O) (m n:Nat) (κ : Kp) : Prop where
 ok : κ.Ok n
 sz:KSz κ m
 u : ∀ o ∈ κ.unv,o ∈ L
 w : ∀ o ∈ κ.wait,o ∈ L
theorem KIn.zq {L:List O} {m n:Nat} {κ : Kp} (k:KIn L m n κ) : KIn L m n κ.zq.1 ∧ (∀ o ∈ κ.zq.2,o ∈ L) ∧ κ.zq.2.length ≤ m:=by
 refine ⟨⟨k.ok.zq,⟨k.sz.hd,?_,k.sz.dw⟩,jn5 κ κ.unv _ k.u (fun o h=>by cases h),k.w⟩,jro κ κ.unv _ k.u (fun o h=>by cases h),?_⟩
 ·have h1:=jyi κ κ.unv (κ.cho,[],[])
  have h2:=k.sz.uc
  show (gv κ κ.unv (κ.cho,[],[])).2.2.length + (gv κ κ.unv (κ.cho,[],[])).1.length ≤ m
  simp at h1
  omega
 ·have h1:=(jvg κ κ.unv (κ.cho,[],[])).2.1
  have h2:=k.sz.uc
  show (gv κ κ.unv (κ.cho,[],[])).2.1.length ≤ m
  simp at h1
  omega
theorem KIn.go {L:List O} {m n:Nat} : ∀ {j:Nat} {κ : Kp},KIn L m n κ → KIn L m n (Kp.go j κ)
 | 0,_,k=>k
 | j + 1,κ,k=>by
  unfold Kp.go
  cases e : κ.first with
  | none=>exact k
  | some o=>
   have om:=jdh e
   have l2:(κ.step o).wait.length = κ.wait.length - 1:=List.length_erase_of_mem om
   have l1:(κ.step o).done.length = κ.done.length + 1:=by show (κ.done ++ [o]).length = _; rw [List.length_append]; rfl
   have:=List.length_pos_of_mem om
   have:=k.sz.dw
   exact KIn.go (κ:=κ.step o) ⟨k.ok.step o,⟨k.sz.hd,k.sz.uc,by omega⟩,k.u,fun o' h=>k.w o' (List.mem_of_mem_erase h)⟩
theorem KIn.mono {L L':List O} {m m' n:Nat} {κ : Kp} (k:KIn L m n κ) (h1 : ∀ o ∈ L,o ∈ L') (h2:m ≤ m') : KIn L' m' n κ:=⟨k.ok,⟨Nat.le_trans k.sz.hd h2,Nat.le_trans k.sz.uc h2,Nat.le_trans k.sz.dw h2⟩,fun o h=>h1 o (k.u o h),fun o h=>h1 o (k.w o h)⟩
theorem KIn.take {L:List O} {m n:Nat} {κ : Kp} (k:KIn L m n κ) (b:Bool) {o:O} (ol:o ∈ L) (ho:xk n o = true) : KIn L (m + 1) n (κ.take b o).1 ∧ (∀ o' ∈ (κ.take b o).2,o' ∈ L) ∧ (κ.take b o).2.length ≤ m + 1:=by
 have h1:=k.sz.hd
 have h2:=k.sz.uc
 have h3:=k.sz.dw
 have nil_:KIn L (m + 1) n κ ∧ (∀ o' ∈ ([] : List O),o' ∈ L) ∧ ([] : List O).length ≤ m + 1:=⟨k.mono (fun _ h=>h) (by omega),(fun _ z=>by cases z),Nat.zero_le _⟩
 unfold Kp.take
 split
 ·unfold Kp.j1j
  split
  ·exact nil_
  ·refine KIn.zq (m:=m + 1) ⟨⟨k.ok.h,k.ok.x,fun u hu=>?_,k.ok.w,k.ok.nd⟩,⟨by show (κ.kl ++ [o]).length ≤ m + 1; rw [List.length_append]; show κ.kl.length + 1 ≤ m + 1; omega,by show (κ.unv ++ [o]).length + κ.cho.length ≤ m + 1; rw [List.length_append]; show κ.unv.length + 1 + κ.cho.length ≤ m + 1; omega,by show κ.done.length + κ.wait.length ≤ m + 1; omega⟩,fun u hu=>?_,k.w⟩
   ·rcases List.mem_append.mp hu with hu | hu
    ·exact k.ok.u u hu
    ·rw [List.mem_singleton.mp hu]; exact ho
   ·rcases List.mem_append.mp hu with hu | hu
    ·exact k.u u hu
    ·rw [List.mem_singleton.mp hu]; exact ol
 ·unfold Kp.jp1
  split
  ·exact nil_
  ·rename_i nz
   have no : ¬ o ∈ κ.wait:=fun z=>nz (by rw [decide_eq_true z,Bool.or_true])
   refine KIn.zq (m:=m + 1) (KIn.go ⟨⟨k.ok.h,k.ok.x,k.ok.u,fun u hu=>?_,?_⟩,⟨by show κ.kl.length ≤ m + 1; omega,by show κ.unv.length + κ.cho.length ≤ m + 1; omega,by show κ.done.length + (κ.wait ++ [o]).length ≤ m + 1; rw [List.length_append]; show κ.done.length + (κ.wait.length + 1) ≤ m + 1; omega⟩,k.u,fun u hu=>?_⟩)
   ·rcases List.mem_append.mp hu with hu | hu
    ·exact k.ok.w u hu
    ·rw [List.mem_singleton.mp hu]; exact ho
   ·exact List.nodup_append.mpr ⟨k.ok.nd,by simp,fun x hx y hy e=>by rw [List.mem_singleton.mp hy] at e; subst e; exact no hx⟩
   ·rcases List.mem_append.mp hu with hu | hu
    ·exact k.w u hu
    ·rw [List.mem_singleton.mp hu]; exact ol
structure BIn (L:List O) (hs:List Int) (is:ym) : Prop where
 nd:(is.map (·.1)).Nodup
 ks : ∀ x ∈ is,∃ o ∈ L,x.1 = vu o
 hn : ∀ x ∈ is,x.2.Nodup ∧ ∀ h ∈ x.2,h ∈ hs
theorem jty {k:List Int} {h:Int} : ∀ {is:ym} {y:List Int},y ∈ (jd6 is k h).map (·.1) → y ∈ is.map (·.1) ∨ y = k
 | [],y,hy=>.inr (List.mem_singleton.mp hy)
 | p :: ps,y,hy=>by
  unfold jd6 at hy
  split at hy
  ·rw [List.map_cons,List.mem_cons] at hy ⊢
   exact .inl hy
  ·rw [List.map_cons,List.mem_cons] at hy ⊢
   rcases hy with hy | hy
   ·exact .inl (.inl hy)
   ·rcases jty hy with h | h
    ·exact .inl (.inr h)
    ·exact .inr h
theorem BIn.sign {L:List O} {hs:List Int} {o:O} {h:Int} (ol:o ∈ L) (hh:h ∈ hs) : ∀ {is:ym},BIn L hs is → h ∉ jx is (vu o) → BIn L hs (jd6 is (vu o) h)
 | [],_,_=>⟨by simp [jd6],fun x hx=>by rw [List.mem_singleton.mp hx]; exact ⟨o,ol,rfl⟩,fun x hx=>by rw [List.mem_singleton.mp hx]; exact ⟨by simp,fun y hy=>by rw [List.mem_singleton.mp hy]; exact hh⟩⟩
 | p :: ps,b,hn=>by
  have bt:BIn L hs ps:=⟨(List.nodup_cons.mp b.nd).2,fun x hx=>b.ks x (List.mem_cons_of_mem _ hx),fun x hx=>b.hn x (List.mem_cons_of_mem _ hx)⟩
  unfold jd6
  unfold jx at hn
  split
  ·rename_i z
   rw [if_pos z] at hn
   refine ⟨b.nd,fun x hx=>?_,fun x hx=>?_⟩
   ·rcases List.mem_cons.mp hx with rfl | hx
    ·exact b.ks p List.mem_cons_self
    ·exact bt.ks x hx
   ·rcases List.mem_cons.mp hx with rfl | hx
    ·obtain ⟨q1,q2⟩:=b.hn p List.mem_cons_self
     refine ⟨List.nodup_append.mpr ⟨q1,by simp,fun x1 hx1 y1 hy1 e=>by rw [List.mem_singleton.mp hy1] at e; subst e; exact hn hx1⟩,fun y hy=>?_⟩
     rcases List.mem_append.mp hy with hy | hy
     ·exact q2 y hy
     ·rw [List.mem_singleton.mp hy]; exact hh
    ·exact bt.hn x hx
  ·rename_i z
   rw [if_neg z] at hn
   have ih:=bt.sign ol hh hn
   refine ⟨?_,fun x hx=>?_,fun x hx=>?_⟩
   ·rw [List.map_cons,List.nodup_cons]
    refine ⟨fun y=>?_,ih.nd⟩
    rcases jty y with y | y
    ·exact (List.nodup_cons.mp b.nd).1 y
    ·exact z y
   ·rcases List.mem_cons.mp hx with rfl | hx
    ·exact b.ks _ List.mem_cons_self
    ·exact ih.ks x hx
   ·rcases List.mem_cons.mp hx with rfl | hx
    ·exact b.hn _ List.mem_cons_self
    ·exact ih.hn x hx
theorem BIn.len {L:List O} {hs:List Int} {is:ym} (b:BIn L hs is) : is.length ≤ L.length ∧ ∀ x ∈ is,x.2.length ≤ hs.length:=by
 refine ⟨?_,fun x hx=>yw (b.hn x hx).1 (b.hn x hx).2⟩
 have:=yw (ys:=L.map vu) b.nd fun y hy=>by
  obtain ⟨x,hx,rfl⟩:=List.mem_map.mp hy
  obtain ⟨o,ol,e⟩:=b.ks x hx
  rw [e]
  exact List.mem_map_of_mem ol
 rwa [List.length_map,List.length_map] at this
structure Wd.jzd (ω ω':Wd) : Prop where
 n : ω'.n = ω.n
 c : ω'.ja6 = ω.ja6
 k : ω'.ks = ω.ks
 e : ω'.en = ω.en
 a : ω'.asked = ω.asked
theorem Wd.jzd.trans {a b c:Wd} (x:a.jzd b) (y:b.jzd c) : a.jzd c:=⟨y.n.trans x.n,y.c.trans x.c,y.k.trans x.k,y.e.trans x.e,y.a.trans x.a⟩
theorem jlb (ω : Wd) (h:Int) (o:O) : ω.jzd (ω.put h o).1:=by
 unfold Wd.put
 split
 ·exact ⟨rfl,rfl,rfl,rfl,rfl⟩
 ·exact ⟨rfl,rfl,rfl,rfl,rfl⟩
theorem jgx (ω : Wd) (h:Int) (o:O) : ω.jzd (ω.jew h o):=by
 have p:=jlb ω h o
 unfold Wd.jew
 split
 ·exact ⟨p.n,p.c,p.k,p.e,p.a⟩
 ·exact p
theorem jj1 {ω : Wd} {h:Int} (m:h ∈ ω.ks.map (·.1)) : ∃ κ,ω.keep h = some κ ∧ (h,κ) ∈ ω.ks:=by
 unfold Wd.keep
 cases e : ω.ks.find? fun c=>decide (c.1 = h) with
 | none=>
  obtain ⟨c,hc,rfl⟩:=List.mem_map.mp m
  have:=List.find?_eq_none.mp e c hc
  simp at this
 | some c=>
  have h1:c.1 = h:=of_decide_eq_true (List.find?_some (p:=fun c:Int × Kp=>decide (c.1 = h)) e)
  refine ⟨c.2,rfl,?_⟩
  rw [← h1]
  exact List.mem_of_find?_eq_some e
def jzq (xs:List Int) (o:O) : List Int:=jan (jan xs o.p (-o.m)) o.g o.m
def jy5 (ns:List Int) (os:List O) : List Int:=os.foldl jzq ns
theorem j43 {xs:List Int} {i:Int} : gI xs i = 0 ∨ gI xs i ∈ xs:=by
 unfold gI
 cases e:xs[i.toNat]? with
 | none=>exact .inl rfl
 | some x=>exact .inr (List.mem_of_getElem? e)
theorem sum_set : ∀ (xs:List Int) (i:Nat) (v:Int),i < xs.length → (xs.set i v).sum = xs.sum - (xs[i]?).getD 0 + v
 | [],_,_,h=>by cases h
 | x :: xs,0,v,_=>by simp; omega
 | x :: xs,i + 1,v,h=>by
  have:=sum_set xs i v (by simpa using h)
  simp only [List.set_cons_succ,List.sum_cons,List.getElem?_cons_succ]
  omega
theorem jvb {xs:List Int} {i d:Int} (h0 : 0 ≤ i) (h1:i < xs.length) : (jan xs i d).sum = xs.sum + d:=by
 unfold jan
 rw [sum_set xs i.toNat _ (by omega)]
 unfold gI
 omega
theorem jn2 {xs:List Int} {i j d:Int} (h0 : 0 ≤ i) (h1:i < xs.length) (j0 : 0 ≤ j) : gI (jan xs i d) j = if j = i then gI xs i + d else gI xs j:=by
 unfold jan gI
 by_cases z:j = i
 ·subst z
  rw [if_pos rfl,List.getElem?_set_self (by omega)]
  rfl
 ·rw [if_neg z,List.getElem?_set_ne (by omega)]
theorem ju9 {xs:List Int} {i d:Int} (h : ∀ x ∈ xs,0 ≤ x) (hd : 0 ≤ gI xs i + d) : ∀ x ∈ jan xs i d,0 ≤ x:=fun x hx=>by
 rcases List.mem_or_eq_of_mem_set hx with hx | rfl
 ·exact h x hx
 ·exact hd
def ofP (p:Int) (os:List O) : List O:=os.filter fun o=>decide (o.p = p)
def upTo (k:Int) : List Int:=(List.range k.toNat).map fun (i:Nat)=>(i:Int)
theorem jtv {k:Int} (h : 0 ≤ k) : upTo (k + 1) = upTo k ++ [k]:=by
 unfold upTo
 rw [show (k + 1).toNat = k.toNat + 1 by omega,List.range_succ,List.map_append]
 congr 1
 show [((k.toNat:Nat) : Int)] = [k]
 rw [Int.toNat_of_nonneg h]
structure KX (L:List O) (C:O → Bool) (n:Nat) (ns:List Int) (κ : Kp) : Prop where
 he : κ.held = jy5 ns κ.done
 h0 : ∀ x ∈ κ.held,0 ≤ x
 hs : κ.held.sum = ns.sum
 nm : ∀ p:Int,0 ≤ p → p < (n:Int) → 0 ≤ gI κ.ph p ∧ (ofP p κ.done).map (·.n) = upTo (gI κ.ph p)
 dl : ∀ o ∈ κ.done,o ∈ L ∧ C o = true
 wc : ∀ o ∈ κ.wait,C o = true
 wd : ∀ o ∈ κ.wait,o ∉ κ.done
theorem KX.mono {L L':List O} {C C':O → Bool} {n:Nat} {ns:List Int} {κ : Kp} (k:KX L C n ns κ) (h : ∀ o ∈ L,o ∈ L') (hc : ∀ o,C o = true → C' o = true) : KX L' C' n ns κ:=⟨k.he,k.h0,k.hs,k.nm,fun o ho=>⟨h o (k.dl o ho).1,hc o (k.dl o ho).2⟩,fun o ho=>hc o (k.wc o ho),k.wd⟩
theorem KX.zq {L:List O} {C:O → Bool} {n:Nat} {ns:List Int} {κ : Kp} (k:KX L C n ns κ) : KX L C n ns κ.zq.1:=⟨k.he,k.h0,k.hs,k.nm,k.dl,k.wc,k.wd⟩
theorem KX.past {L:List O} {C:O → Bool} {n:Nat} {ns:List Int} {κ : Kp} (k:KX L C n ns κ) (lo : ∀ o ∈ L,xk n o = true) {o:O} (h:o ∈ κ.done) : κ.past o = true:=by
 obtain ⟨p0,p1,_⟩:=zy.mp (lo o (k.dl o h).1)
 obtain ⟨g0,e⟩:=k.nm o.p p0 (by omega)
 have m:o.n ∈ (ofP o.p κ.done).map (·.n):=List.mem_map_of_mem (List.mem_filter.mpr ⟨h,decide_eq_true rfl⟩)
 rw [e] at m
 obtain ⟨i,hi,ei⟩:=List.mem_map.mp m
 have:=List.mem_range.mp hi
 exact decide_eq_true (by omega)
theorem KX.step {L:List O} {C:O → Bool} {n:Nat} {ns:List Int} {κ : Kp} (k:KX L C n ns κ) (ok : κ.Ok n) {o:O} (ho:xk n o = true) (ol:o ∈ L) (ow:o ∈ κ.wait) (du : κ.due o = true) : KX L C n ns (κ.step o):=by
 obtain ⟨p0,p1,g0,g1,png,n0,n1,m1,m2⟩:=zy.mp ho
 unfold Kp.due at du
 rw [Bool.and_eq_true,decide_eq_true_eq,decide_eq_true_eq] at du
 have lh:=ok.h
 have lx:=ok.x
 refine ⟨?_,?_,?_,fun p pp0 pp1=>?_,fun u hu=>?_,fun u hu=>k.wc u (List.mem_of_mem_erase hu),fun u hu hd=>?_⟩
 ·show jzq κ.held o = jy5 ns (κ.done ++ [o])
  have e:jy5 ns (κ.done ++ [o]) = jzq (jy5 ns κ.done) o:=by
   unfold jy5
   rw [List.foldl_append]
   rfl
  rw [e,← k.he]
 ·show ∀ x ∈ jan (jan κ.held o.p (-o.m)) o.g o.m,0 ≤ x
  have h1 : ∀ x ∈ jan κ.held o.p (-o.m),0 ≤ x:=ju9 k.h0 (by omega)
  refine ju9 h1 ?_
  rcases j43 (xs:=jan κ.held o.p (-o.m)) (i:=o.g) with e | e
  ·omega
  ·have:=h1 _ e
   omega
 ·show (jan (jan κ.held o.p (-o.m)) o.g o.m).sum = ns.sum
  rw [jvb g0 (by rw [jdy,lh]; omega),jvb p0 (by rw [lh]; omega),k.hs]
  omega
 ·obtain ⟨q0,e⟩:=k.nm p pp0 pp1
  show 0 ≤ gI (jan κ.ph o.p 1) p ∧ (ofP p (κ.done ++ [o])).map (·.n) = upTo (gI (jan κ.ph o.p 1) p)
  rw [jn2 p0 (by rw [lx]; omega) pp0]
  unfold ofP at e ⊢
  rw [List.filter_append,List.map_append,e]
  by_cases z:p = o.p
  ·subst z
   rw [if_pos rfl]
   refine ⟨by omega,?_⟩
   rw [jtv q0,← du.1]
   simp
  ·rw [if_neg z]
   refine ⟨q0,?_⟩
   have : ¬ o.p = p:=fun y=>z y.symm
   simp [this]
 ·have hu':u ∈ κ.done ++ [o]:=hu
  rcases List.mem_append.mp hu' with h | h
  ·exact k.dl u h
  ·rw [List.mem_singleton.mp h]
   exact ⟨ol,k.wc o ow⟩
 ·have hd':u ∈ κ.done ++ [o]:=hd
  have hu':u ∈ κ.wait.erase o:=hu
  rcases List.mem_append.mp hd' with h | h
  ·exact k.wd u (List.mem_of_mem_erase hu') h
  ·rw [List.mem_singleton.mp h] at hu'
   exact (List.Nodup.mem_erase_iff ok.nd).mp hu' |>.1 rfl
theorem KX.go {L:List O} {C:O → Bool} {n:Nat} {ns:List Int} (lo : ∀ o ∈ L,xk n o = true) : ∀ {j:Nat} {κ : Kp},KX L C n ns κ → κ.Ok n → (∀ o ∈ κ.wait,o ∈ L) → KX L C n ns (Kp.go j κ)
 | 0,_,k,_,_=>k
 | j + 1,κ,k,ok,wl=>by
  unfold Kp.go
  cases e : κ.first with
  | none=>exact k
  | some o=>
   have om:=jdh e
   have du : κ.due o = true:=List.find?_some e
   exact KX.go lo (k.step ok (lo o (wl o om)) (wl o om) om du) (ok.step o) fun u hu=>wl u (List.mem_of_mem_erase hu)
theorem KX.take {L:List O} {C:O → Bool} {n:Nat} {ns:List Int} {κ : Kp} (k:KX L C n ns κ) (lo : ∀ o ∈ L,xk n o = true) (ok : κ.Ok n) (wl : ∀ o ∈ κ.wait,o ∈ L) (b:Bool) {o:O} (ol:o ∈ L) (oc:b = false → C o = true) : KX L C n ns (κ.take b o).1:=by
 unfold Kp.take
 split
 ·unfold Kp.j1j
  split
  ·exact k
  ·exact KX.zq ⟨k.he,k.h0,k.hs,k.nm,k.dl,k.wc,k.wd⟩
 ·rename_i nb
  have cb:C o = true:=oc (by simpa using nb)
  unfold Kp.jp1
  split
  ·exact k
  ·rename_i nz
   have no : ¬ o ∈ κ.wait:=fun z=>nz (by rw [decide_eq_true z,Bool.or_true])
   have np : ¬ κ.past o = true:=fun z=>nz (by rw [z,Bool.true_or])
   refine KX.zq (KX.go lo (κ:={ κ with wait:=κ.wait ++ [o] }) ⟨k.he,k.h0,k.hs,k.nm,k.dl,fun u hu=>?_,fun u hu hd=>?_⟩ ⟨ok.h,ok.x,ok.u,fun u hu=>?_,?_⟩ fun u hu=>?_)
   ·rcases List.mem_append.mp hu with hu | hu
    ·exact k.wc u hu
    ·rw [List.mem_singleton.mp hu]; exact cb
   ·rcases List.mem_append.mp hu with hu | hu
    ·exact k.wd u hu hd
    ·rw [List.mem_singleton.mp hu] at hd
     exact np (k.past lo hd)
   ·rcases List.mem_append.mp hu with hu | hu
    ·exact ok.w u hu
    ·rw [List.mem_singleton.mp hu]; exact lo o ol
   ·exact List.nodup_append.mpr ⟨ok.nd,by simp,fun x hx y hy e=>by rw [List.mem_singleton.mp hy] at e; subst e; exact no hx⟩
   ·rcases List.mem_append.mp hu with hu | hu
    ·exact wl u hu
    ·rw [List.mem_singleton.mp hu]; exact ol
theorem jfq {k k':List Int} {h:Int} : ∀ {is:ym},jx (jd6 is k h) k' = if k' = k then jx is k ++ [h] else jx is k'
 | []=>by
  show (if k = k' then [h] else []) = _
  by_cases z:k' = k
  ·rw [if_pos z,if_pos z.symm]
   rfl
  ·rw [if_neg z,if_neg (fun y=>z y.symm)]
   rfl
 | p :: ps=>by
  unfold jd6
  by_cases y:p.1 = k
  ·rw [if_pos y]
   show (if p.1 = k' then p.2 ++ [h] else jx ps k') = if k' = k then (if p.1 = k then p.2 else jx ps k) ++ [h] else if p.1 = k' then p.2 else jx ps k'
   by_cases z:k' = k
   ·rw [if_pos z,if_pos y,if_pos (by rw [y,z])]
   ·rw [if_neg z,if_neg (fun q=>z (by rw [← q,y])),if_neg (fun q=>z (by rw [← q,y]))]
  ·rw [if_neg y]
   show (if p.1 = k' then p.2 else jx (jd6 ps k h) k') = if k' = k then (if p.1 = k then p.2 else jx ps k) ++ [h] else if p.1 = k' then p.2 else jx ps k'
   rw [jfq (is:=ps),if_neg y]
   by_cases z:k' = k
   ·rw [if_pos z,if_pos z,if_neg (fun q=>y (by rw [q,z]))]
   ·rw [if_neg z,if_neg z]
theorem jwm (ω : Wd) (h:Int) (o:O) (k:List Int) : (jx ω.bd k).length ≤ (jx (ω.put h o).1.bd k).length:=by
 unfold Wd.put
 split
 ·exact Nat.le_refl _
 ·show _ ≤ (jx (jd6 ω.bd (vu o) h) k).length
  rw [jfq]
  split
  ·rename_i z
   rw [z,List.length_append]
   omega
  ·exact Nat.le_refl _
theorem jum (ω : Wd) (h:Int) (o u:O) (c : ω.carried u = true) : (ω.put h o).1.carried u = true:=by
 have e:=(jlb ω h o).e
 have l:=jwm ω h o (vu u)
 unfold Wd.carried at c ⊢
 have:=of_decide_eq_true c
 exact decide_eq_true (by rw [e]; omega)
theorem jyq {ω : Wd} {h:Int} {o:O} (c:(ω.put h o).2 = true) : (ω.put h o).1.carried o = true:=by
 unfold Wd.put at c ⊢
 split at c
 ·cases c
 ·rename_i z
  rw [if_neg z]
  have:=of_decide_eq_true c
  refine decide_eq_true ?_
  show ω.en ≤ ((jx (jd6 ω.bd (vu o) h) (vu o)).length:Int)
  rw [jfq,if_pos rfl,List.length_append]
  show ω.en ≤ (((jx ω.bd (vu o)).length + 1:Nat) : Int)
  omega
theorem jmb (ω : Wd) (h:Int) (o:O) : (ω.jew h o).bd = (ω.put h o).1.bd:=by
 unfold Wd.jew
 split <;> rfl
theorem jne {ω : Wd} {h:Int} {o u:O} (c : ω.carried u = true) : (ω.jew h o).carried u = true:=by
 have:=jum ω h o u c
 unfold Wd.carried at this ⊢
 rw [jmb,(jgx ω h o).e,← (jlb ω h o).e]
 exact this
structure WG (ω : Wd) (L:List O) (hb:List Int) : Prop where
 b:BIn L hb ω.bd
 y : ∀ x ∈ ω.way,x.2.2 ∈ L ∧ x.2.1 ∈ ω.ks.map (·.1) ∧ (x.1 = false → ω.carried x.2.2 = true)
theorem WG.jew {ω : Wd} {L:List O} {hb:List Int} {h:Int} {o:O} (g:WG ω L hb) (ol:o ∈ L) (hh:h ∈ hb) : WG (ω.jew h o) L hb ∧ (ω.jew h o).way.length ≤ ω.way.length + ω.ks.length:=by
 have pb:BIn L hb (ω.put h o).1.bd ∧ (ω.put h o).1.way = ω.way ∧ (ω.put h o).1.ks = ω.ks:=by
  unfold Wd.put
  split
  ·exact ⟨g.b,rfl,rfl⟩
  ·rename_i hn
   exact ⟨g.b.sign ol hh hn,rfl,rfl⟩
 have lk:=jgx ω h o
 have old : ∀ x ∈ ω.way,x.2.2 ∈ L ∧ x.2.1 ∈ (ω.jew h o).ks.map (·.1) ∧ (x.1 = false → (ω.jew h o).carried x.2.2 = true):=fun x hx=>by
  obtain ⟨a,b,c⟩:=g.y x hx
  exact ⟨a,by rw [lk.k]; exact b,fun e=>jne (c e)⟩
 by_cases z:(ω.put h o).2 = true
 ·have ew:(ω.jew h o).way = ω.way ++ ω.ks.map fun c=>(false,c.1,o):=by
   unfold Wd.jew
   rw [if_pos z]
   show (ω.put h o).1.way ++ _ = _
   rw [pb.2.1,pb.2.2]
  refine ⟨⟨by rw [jmb]; exact pb.1,fun x hx=>?_⟩,by rw [ew,List.length_append,List.length_map]; exact Nat.le_refl _⟩
  rw [ew] at hx
  rcases List.mem_append.mp hx with hx | hx
  ·exact old x hx
  ·obtain ⟨c,hc,rfl⟩:=List.mem_map.mp hx
   refine ⟨ol,by rw [lk.k]; exact List.mem_map_of_mem hc,fun _=>?_⟩
   have:=jyq z
   unfold Wd.carried at this ⊢
   rw [jmb,lk.e,← (jlb ω h o).e]
   exact this
 ·have ew:(ω.jew h o).way = ω.way:=by
   unfold Wd.jew
   rw [if_neg z,pb.2.1]
  exact ⟨⟨by rw [jmb]; exact pb.1,fun x hx=>old x (by rw [← ew]; exact hx)⟩,by rw [ew]; omega⟩
structure Gn (ω : Wd) (T M:Nat) (L:List O) (ls ns:List Int) : Prop where
 ok : ω.Ok
 l:L.length ≤ T
 lo : ∀ o ∈ L,xk ω.n o = true
 mw : ∀ o ∈ L,ω.may o
 ks : ∀ c ∈ ω.ks,KIn L T ω.n c.2 ∧ KX L ω.carried ω.n ns c.2
 g:WG ω L (ω.ks.map (·.1) ++ ls)
 wl : ω.way.length ≤ M
 al : ∀ row ∈ ω.asked,row.length ≤ T
 e1 : 1 ≤ ω.en
theorem BIn.mono {L L':List O} {hs:List Int} {is:ym} (b:BIn L hs is) (h : ∀ o ∈ L,o ∈ L') : BIn L' hs is:=⟨b.nd,fun x hx=>let ⟨o,a,c⟩:=b.ks x hx; ⟨o,h o a,c⟩,b.hn⟩
section
variable {ω : Wd} {T M T' M':Nat} {L:List O} {ls ns:List Int}
end
theorem j58 {h f:Int} {ns cs ls:List Int} (h1 : 1 ≤ h ∧ h ≤ 16) (hf : 0 ≤ f) (lt : 3 * f < h) (l8:ns.length ≤ 8) (n0 : ∀ x ∈ ns,0 ≤ x) (ll:(ls.length:Int) ≤ f) (lr : ∀ x ∈ ls,0 ≤ x ∧ x < h) : Gn (w0 h f ns cs ls) 0 0 [] ls ns:=by
 have ek:(w0 h f ns cs ls).ks.map (·.1) = jbx ls h.toNat:=by
  show ((jbx ls h.toNat).map fun i=>(i,kp0 ns)).map (·.1) = _
  rw [List.map_map]
  exact List.map_id _
 have kall : ∀ c ∈ (w0 h f ns cs ls).ks,c.2 = kp0 ns:=fun c hc=>by
  obtain ⟨i,_,rfl⟩:=List.mem_map.mp (show c ∈ (jbx ls h.toNat).map fun i=>(i,kp0 ns) from hc)
  rfl
 have lk:(w0 h f ns cs ls).ks.length = (jbx ls h.toNat).length:=List.length_map ..
 have kin:KIn [] 0 ns.length (kp0 ns):=⟨⟨rfl,by show (List.replicate _ _).length = _; rw [List.length_replicate],fun _ z=>(by cases z),fun _ z=>(by cases z),List.nodup_nil⟩,⟨Nat.le_refl _,Nat.le_refl _,Nat.le_refl _⟩,fun _ z=>(by cases z),fun _ z=>(by cases z)⟩
 have kx:KX [] (w0 h f ns cs ls).carried ns.length ns (kp0 ns):=by
  refine ⟨rfl,n0,rfl,fun p p0 p1=>?_,fun _ z=>(by cases z),fun _ z=>(by cases z),fun _ z=>(by cases z)⟩
  have e:gI (kp0 ns).ph p = 0:=by
   unfold gI
   show ((List.replicate ns.length (0:Int))[p.toNat]?).getD 0 = 0
   rw [List.getElem?_replicate]
   split <;> rfl
  rw [e]
  exact ⟨Int.le_refl _,rfl⟩
 have cn:(jbx ls h.toNat).Nodup:=by
  unfold jbx
  exact List.Pairwise.filter _ (List.Pairwise.map _ (fun a b hab z=>hab (Int.ofNat.inj z)) List.nodup_range)
 have c1 : 0 < (jbx ls h.toNat).length:=by
  have hl:((List.range h.toNat).map fun (i:Nat)=>(i:Int)).length ≤ (jbx ls h.toNat).length + ls.length:=by
   rw [← List.length_append]
   refine yw (List.Pairwise.map _ (fun a b hab z=>hab (Int.ofNat.inj z)) List.nodup_range) fun x hx=>?_
   by_cases z:x ∈ ls
   ·exact List.mem_append_right _ z
   ·exact List.mem_append_left _ (List.mem_filter.mpr ⟨hx,by simp [z]⟩)
  rw [List.length_map,List.length_range] at hl
  omega
 have c2:=jq6 ls h.toNat
 refine ⟨⟨l8,by show (List.replicate _ _).length = _; rw [List.length_replicate]; rfl,fun row hr o ho=>?_,fun c hc=>by rw [kall c hc]; exact kin.ok,by rw [ek]; exact cn,by rw [lk]; exact c1,by rw [lk]; omega⟩,Nat.le_refl _,fun _ z=>(by cases z),fun _ z=>(by cases z),fun c hc=>by rw [kall c hc]; exact ⟨kin,kx⟩,⟨⟨List.nodup_nil,fun _ z=>(by cases z),fun _ z=>(by cases z)⟩,fun _ z=>(by cases z)⟩,Nat.le_refl _,fun row hr=>?_,by show 1 ≤ h - f; omega⟩
 ·have:row = []:=List.eq_of_mem_replicate hr
  subst this
  cases ho
 ·have:row = []:=List.eq_of_mem_replicate hr
  subst this
  exact Nat.le_refl _
theorem jtu (ks:List (Int × Kp)) (h:Int) (κ : Kp) : (jnt ks h κ).map (·.1) = ks.map (·.1):=by
 unfold jnt
 rw [List.map_map]
 refine List.map_congr_left fun c _=>?_
 show (if c.1 = h then (h,κ) else c).1 = c.1
 split
 ·rename_i z
  exact z.symm
 ·rfl
theorem jv8 {is:ym} {i:Nat} {x:List Int × List Int} (nd:(is.map (·.1)).Nodup) (e:is[i]? = some x) : jx is x.1 = x.2:=(jep x.1 is).symm.trans (jpd nd e)
theorem j0t (xs:List Int) (o:O) : (jzq xs o).length = xs.length:=by
 unfold jzq
 rw [jdy,jdy]
def inP (p:Int) (os:List O) : Int:=((os.filter fun o=>decide (o.g = p)).map (·.m)).sum
def j1o (p:Int) (os:List O) : Int:=((ofP p os).map (·.m)).sum
theorem jra {xs ys:List Int} (h:xs.Perm ys) : xs.sum = ys.sum:=by
 induction h with
 | nil=>rfl
 | cons x _ ih=>rw [List.sum_cons,List.sum_cons,ih]
 | swap x y l=>rw [List.sum_cons,List.sum_cons,List.sum_cons,List.sum_cons]; omega
 | trans _ _ a b=>exact a.trans b
theorem jq3 {α : Type} [DecidableEq α] {f : α → Int} : ∀ {xs ys:List α},xs.Nodup → (∀ x ∈ xs,x ∈ ys) → (∀ y ∈ ys,0 ≤ f y) → (xs.map f).sum ≤ (ys.map f).sum
 | [],[],_,_,_=>Int.le_refl _
 | [],y :: ys,nd,h,p=>by
  have:=jq3 (f:=f) (xs:=[]) (ys:=ys) nd (fun _ z=>by cases z) (fun y hy=>p y (List.mem_cons_of_mem _ hy))
  have:=p y List.mem_cons_self
  rw [List.map_cons,List.sum_cons]
  omega
 | x :: xs,ys,nd,h,p=>by
  rw [List.nodup_cons] at nd
  have hx:=h x List.mem_cons_self
  have:=jq3 (f:=f) (xs:=xs) (ys:=ys.erase x) nd.2 (fun y hy=>(List.mem_erase_of_ne (fun z=>nd.1 (by rw [← z]; exact hy))).mpr (h y (List.mem_cons_of_mem _ hy))) (fun y hy=>p y (List.mem_of_mem_erase hy))
  have e:=jra ((List.perm_cons_erase hx).map f)
  rw [List.map_cons,List.sum_cons] at e ⊢
  omega
theorem j0s {α : Type} [DecidableEq α] {xs ys:List α} (nd:xs.Nodup) (h : ∀ x ∈ xs,x ∈ ys) (l:ys.length ≤ xs.length) : ∀ y ∈ ys,y ∈ xs:=fun y hy=>by
 by_cases z:y ∈ xs
 ·exact z
 ·have:=yw (xs:=y :: xs) (ys:=ys) (List.nodup_cons.mpr ⟨z,nd⟩) fun x hx=>by
   rcases List.mem_cons.mp hx with rfl | hx
   ·exact hy
   ·exact h x hx
  rw [List.length_cons] at this
  omega
theorem joq {α : Type} [DecidableEq α] : ∀ {xs ys:List α},xs.Nodup → ys.Nodup → (∀ x,x ∈ xs ↔ x ∈ ys) → xs.Perm ys
 | [],[],_,_,_=>.nil
 | [],y :: ys,_,_,h=>by cases (h y).mpr List.mem_cons_self
 | x :: xs,ys,nx,ny,h=>by
  rw [List.nodup_cons] at nx
  have hx:=(h x).mp List.mem_cons_self
  refine .trans (.cons x (joq (ys:=ys.erase x) nx.2 (ny.erase x) fun z=>?_)) (List.perm_cons_erase hx).symm
  rw [ny.mem_erase_iff]
  constructor
  ·exact fun hz=>⟨fun e=>nx.1 (e ▸ hz),(h z).mp (List.mem_cons_of_mem _ hz)⟩
  ·rintro ⟨ne,hz⟩
   rcases List.mem_cons.mp ((h z).mpr hz) with e | e
   ·exact absurd e ne
   ·exact e
theorem j28 {ns:List Int} {o:O} (ho:xk ns.length o = true) {p:Int} (h0 : 0 ≤ p) : gI (jzq ns o) p = gI ns p + (if o.g = p then o.m else 0) - (if o.p = p then o.m else 0):=by
 obtain ⟨p0,p1,g0,g1,png,_⟩:=zy.mp ho
 unfold jzq
 rw [jn2 g0 (by rw [jdy]; omega) h0,jn2 p0 (by omega) h0,jn2 p0 (by omega) g0]
 have h1 : ¬ o.g = o.p:=fun z=>png z.symm
 by_cases a:p = o.g
 ·subst a
  simp only [if_neg h1,if_neg png,↓reduceIte]
  omega
 ·have a' : ¬ o.g = p:=fun z=>a z.symm
  by_cases b:p = o.p
  ·subst b
   simp only [if_neg a,if_neg a',↓reduceIte]
   omega
  ·have b' : ¬ o.p = p:=fun z=>b z.symm
   simp only [if_neg a,if_neg a',if_neg b,if_neg b']
   omega
theorem jlj {n:Nat} {p:Int} (h0 : 0 ≤ p) : ∀ {os:List O} {ns:List Int},ns.length = n → (∀ o ∈ os,xk n o = true) → gI (jy5 ns os) p = gI ns p + inP p os - j1o p os
 | [],ns,_,_=>by show gI ns p = gI ns p + 0 - 0; omega
 | o :: os,ns,l,h=>by
  have ih:=jlj h0 (os:=os) (ns:=jzq ns o) ((j0t ns o).trans l) fun u hu=>h u (List.mem_cons_of_mem _ hu)
  have e:=j28 (ns:=ns) (o:=o) (by rw [l]; exact h o List.mem_cons_self) h0
  show gI (jy5 (jzq ns o) os) p = _
  have e1:inP p (o :: os) = (if o.g = p then o.m else 0) + inP p os:=by
   unfold inP
   by_cases z:o.g = p <;> simp [z]
  have e2:j1o p (o :: os) = (if o.p = p then o.m else 0) + j1o p os:=by
   unfold j1o ofP
   by_cases z:o.p = p <;> simp [z]
  rw [ih,e,e1,e2]
  omega
inductive jww (n:Nat) (ns:List Int) : List O → Prop where
 | nil:jww n ns []
 | snoc {os:List O} {o:O} : jww n ns os → xk n o = true → o.n = ((ofP o.p os).length:Int) → o.m ≤ gI (jy5 ns os) o.p → jww n ns (os ++ [o])
theorem j0e (p:Int) (os:List O) (o:O) : ofP p (os ++ [o]) = ofP p os ++ if o.p = p then [o] else []:=by
 unfold ofP
 rw [List.filter_append]
 congr 1
 by_cases z:o.p = p <;> simp [z]
theorem jww.nums {n:Nat} {ns:List Int} {os:List O} (h:jww n ns os) (p:Int) : (ofP p os).map (·.n) = upTo ((ofP p os).length:Int):=by
 induction h with
 | nil=>rfl
 | snoc h io en em ih=>
  rename_i os o
  rw [j0e]
  by_cases z:o.p = p
  ·rw [if_pos z,List.map_append,List.length_append,ih]
   have e:(((ofP p os).length + [o].length:Nat) : Int) = ((ofP p os).length:Int) + 1:=by simp
   rw [e,jtv (by omega)]
   rw [z] at en
   simp [en]
  ·rw [if_neg z,List.append_nil]
   exact ih
theorem jww.nd {n:Nat} {ns:List Int} {os:List O} (h:jww n ns os) : os.Nodup:=by
 induction h with
 | nil=>exact List.nodup_nil
 | snoc h io en em ih=>
  rename_i os o
  refine List.nodup_append.mpr ⟨ih,by simp,fun x hx y hy e=>?_⟩
  rw [List.mem_singleton.mp hy] at e
  subst e
  have m:x.n ∈ (ofP x.p os).map (·.n):=List.mem_map_of_mem (List.mem_filter.mpr ⟨hx,decide_eq_true rfl⟩)
  rw [h.nums x.p] at m
  obtain ⟨i,hi,ei⟩:=List.mem_map.mp m
  have:=List.mem_range.mp hi
  omega
theorem jww.ord {n:Nat} {ns:List Int} {os:List O} (h:jww n ns os) : ∀ o ∈ os,xk n o = true:=by
 induction h with
 | nil=>exact fun _ z=>by cases z
 | snoc h io en em ih=>
  intro u hu
  rcases List.mem_append.mp hu with hu | hu
  ·exact ih u hu
  ·rw [List.mem_singleton.mp hu]; exact io
theorem j2b {p:Int} {xs ys:List O} (h : ∀ o ∈ xs,o ∈ ys) : ∀ o ∈ ofP p xs,o ∈ ofP p ys:=fun o ho=>List.mem_filter.mpr ⟨h o (List.mem_filter.mp ho).1,(List.mem_filter.mp ho).2⟩
theorem j7t {n:Nat} {ns:List Int} (ln:ns.length = n) {C:O → Prop} (un : ∀ o o',C o → C o' → o.p = o'.p → o.n = o'.n → o = o') {d w:List O} (hd:jww n ns d) (dc : ∀ o ∈ d,C o) (all : ∀ o,C o → o ∈ d ∨ o ∈ w) (dj : ∀ o ∈ w,o ∉ d) (nd : ∀ o ∈ w,¬ (o.n = ((ofP o.p d).length:Int) ∧ o.m ≤ gI (jy5 ns d) o.p)) {e:List O} (he:jww n ns e) : (∀ o ∈ e,C o) → ∀ o ∈ e,o ∈ d:=by
 induction he with
 | nil=>exact fun _ _ z=>by cases z
 | snoc h io en em ih=>
  rename_i os o
  intro ec
  have sub:=ih fun u hu=>ec u (List.mem_append_left _ hu)
  intro u hu
  rcases List.mem_append.mp hu with hu | hu
  ·exact sub u hu
  rw [List.mem_singleton.mp hu]
  have oc:=ec o (List.mem_append_right _ (List.mem_singleton.mpr rfl))
  rcases all o oc with z | z
  ·exact z
  exfalso
  have sP:=j2b (p:=o.p) sub
  have ndA:(ofP o.p os).Nodup:=h.nd.filter _
  have ndD:(ofP o.p d).Nodup:=hd.nd.filter _
  have le:=yw ndA sP
  by_cases y:(ofP o.p os).length < (ofP o.p d).length
  ·have m:o.n ∈ upTo ((ofP o.p d).length:Int):=List.mem_map.mpr ⟨o.n.toNat,List.mem_range.mpr (by omega),by omega⟩
   rw [← hd.nums o.p] at m
   obtain ⟨o',ho',en'⟩:=List.mem_map.mp m
   obtain ⟨m1,m2⟩:=List.mem_filter.mp ho'
   have:o = o':=un o o' oc (dc o' m1) (of_decide_eq_true m2).symm en'.symm
   subst this
   exact dj o z m1
  ·have back:=j0s ndA sP (by omega)
   have p0:=(zy.mp io).1
   have mp : ∀ u ∈ d,0 ≤ u.m:=fun u hu=>by
    have:=(zy.mp (hd.ord u hu)).2.2.2.2.2.2.2.1
    omega
   have o1:j1o o.p d ≤ j1o o.p os:=jq3 ndD back fun u hu=>mp u (sub u (List.mem_filter.mp hu).1)
   have i1:inP o.p os ≤ inP o.p d:=jq3 (h.nd.filter _) (fun u hu=>List.mem_filter.mpr ⟨sub u (List.mem_filter.mp hu).1,(List.mem_filter.mp hu).2⟩) fun u hu=>mp u (List.mem_filter.mp hu).1
   have g1:=jlj (p:=o.p) p0 ln h.ord
   have g2:=jlj (p:=o.p) p0 ln hd.ord
   exact nd o z ⟨by omega,by omega⟩
theorem j1c {κ : Kp} {Q:Gv → Prop} : ∀ {os:List O} {a:Gv},(∀ o ∈ os,∀ a,Q a → Q (gvS κ o a)) → Q a → Q (gv κ os a)
 | [],_,_,h=>h
 | o :: os,a,hs,h=>by
  unfold gv
  rw [List.foldl_cons]
  exact j1c (fun u hu=>hs u (List.mem_cons_of_mem _ hu)) (hs o List.mem_cons_self a h)
structure j5j (c0:List ((Int × Int) × O)) (a:Gv) : Prop where
 ck:(a.1.map (·.1)).Nodup
 cp : ∀ c ∈ a.1,c.1 = (c.2.p,c.2.n)
 mo : ∀ c ∈ c0,c ∈ a.1
 vt : ∀ o ∈ a.2.1,((o.p,o.n),o) ∈ a.1
theorem j5j.step {c0:List ((Int × Int) × O)} {κ : Kp} {o:O} {a:Gv} (g:j5j c0 a) : j5j c0 (gvS κ o a):=by
 unfold gvS
 split
 ·rename_i z
  rw [Bool.and_eq_true] at z
  have nc : ∀ x ∈ a.1,x.1 ≠ (o.p,o.n):=fun x hx e=>by
   have:jp6 a.1 o = true:=List.any_eq_true.mpr ⟨x,hx,decide_eq_true e⟩
   rw [this] at z
   cases z.2
  refine ⟨?_,fun c hc=>?_,fun c hc=>List.mem_append_left _ (g.mo c hc),fun u hu=>?_⟩
  ·show ((a.1 ++ [((o.p,o.n),o)]).map (·.1)).Nodup
   rw [List.map_append]
   refine List.nodup_append.mpr ⟨g.ck,by simp,fun x hx y hy e=>?_⟩
   obtain ⟨c,hc,rfl⟩:=List.mem_map.mp hx
   rw [List.mem_singleton.mp hy] at e
   exact nc c hc e
  ·rcases List.mem_append.mp hc with hc | hc
   ·exact g.cp c hc
   ·rw [List.mem_singleton.mp hc]
  ·rcases List.mem_append.mp hu with hu | hu
   ·exact List.mem_append_left _ (g.vt u hu)
   ·rw [List.mem_singleton.mp hu]
    exact List.mem_append_right _ (List.mem_singleton.mpr rfl)
 ·split
  ·exact ⟨g.ck,g.cp,g.mo,g.vt⟩
  ·exact g
structure KZ (L:List O) (n:Nat) (ns:List Int) (κ : Kp) : Prop where
 hn : κ.kl.Nodup
 hl : ∀ o ∈ κ.kl,o ∈ L
 uc : κ.unv.length + κ.cho.length ≤ κ.kl.length
 ul : ∀ o ∈ κ.unv,o ∈ L
 wl : ∀ o ∈ κ.wait,o ∈ L
 ck:(κ.cho.map (·.1)).Nodup
 cp : ∀ c ∈ κ.cho,c.1 = (c.2.p,c.2.n)
 hi:jww n ns κ.done
def Kp.calm (κ : Kp) : Prop:=∀ o ∈ κ.wait,κ.due o = false
structure Kept (L:List O) (n:Nat) (ns:List Int) (κ κ':Kp) (vs:List O) : Prop where
 z:KZ L n ns κ'
 ca : κ'.calm
 mo : ∀ c ∈ κ.cho,c ∈ κ'.cho
 vt : ∀ o ∈ vs,((o.p,o.n),o) ∈ κ'.cho
 vl : ∀ o ∈ vs,o ∈ L
 dm : ∀ o ∈ κ.done,o ∈ κ'.done
 wm : ∀ o ∈ κ.wait,o ∈ κ'.done ∨ o ∈ κ'.wait
 vn:vs.length ≤ κ'.kl.length
section
variable {L:List O} {n:Nat} {ns:List Int} {κ : Kp}
theorem KZ.mono {L':List O} (z:KZ L n ns κ) (h : ∀ o ∈ L,o ∈ L') : KZ L' n ns κ:=⟨z.hn,fun o ho=>h o (z.hl o ho),z.uc,fun o ho=>h o (z.ul o ho),fun o ho=>h o (z.wl o ho),z.ck,z.cp,z.hi⟩
theorem KZ.zq (z:KZ L n ns κ) (ca : κ.calm) : Kept L n ns κ κ.zq.1 κ.zq.2:=by
 have g:j5j κ.cho (gv κ κ.unv (κ.cho,[],[])):=j1c (fun o _ a h=>h.step) ⟨z.ck,z.cp,fun _ h=>h,fun _ h=>by cases h⟩
 have s:=jyi κ κ.unv (κ.cho,[],[])
 have l2:=(jvg κ κ.unv (κ.cho,[],[])).2.1
 have uc:=z.uc
 refine ⟨⟨z.hn,z.hl,?_,jn5 κ κ.unv _ z.ul (fun o h=>by cases h),z.wl,g.ck,g.cp,z.hi⟩,ca,g.mo,g.vt,jro κ κ.unv _ z.ul (fun o h=>by cases h),fun _ h=>h,fun _ h=>.inr h,?_⟩
 ·show (gv κ κ.unv (κ.cho,[],[])).2.2.length + (gv κ κ.unv (κ.cho,[],[])).1.length ≤ κ.kl.length
  simp at s
  omega
 ·show (gv κ κ.unv (κ.cho,[],[])).2.1.length ≤ κ.kl.length
  simp at l2
  omega
theorem jx1 : ∀ {m:Nat} {κ : Kp},κ.wait.length ≤ m → (Kp.go m κ).calm
 | 0,κ,h=>by
  intro o ho
  have : κ.wait = []:=List.length_eq_zero_iff.mp (by omega)
  have ho':o ∈ κ.wait:=ho
  rw [this] at ho'
  cases ho'
 | m + 1,κ,h=>by
  unfold Kp.go
  cases e : κ.first with
  | none=>
   intro o ho
   have:=List.find?_eq_none.mp e o ho
   simpa using this
  | some o=>
   have om:=jdh e
   have l2:(κ.step o).wait.length = κ.wait.length - 1:=List.length_erase_of_mem om
   have:=List.length_pos_of_mem om
   exact jx1 (κ:=κ.step o) (by omega)
structure j12 (L:List O) (n:Nat) (ns:List Int) (κ κ':Kp) : Prop where
 z:KZ L n ns κ'
 ch : κ'.cho = κ.cho
 hd : κ'.kl = κ.kl
 dm : ∀ o ∈ κ.done,o ∈ κ'.done
 wm : ∀ o ∈ κ.wait,o ∈ κ'.done ∨ o ∈ κ'.wait
theorem KZ.go {C:O → Bool} (lo : ∀ o ∈ L,xk n o = true) : ∀ {m:Nat} {κ : Kp},KZ L n ns κ → KX L C n ns κ → κ.Ok n → j12 L n ns κ (Kp.go m κ)
 | 0,κ,z,_,_=>⟨z,rfl,rfl,fun _ h=>h,fun _ h=>.inr h⟩
 | m + 1,κ,z,k,ok=>by
  unfold Kp.go
  cases e : κ.first with
  | none=>exact ⟨z,rfl,rfl,fun _ h=>h,fun _ h=>.inr h⟩
  | some o=>
   have om:=jdh e
   have du : κ.due o = true:=List.find?_some (p:=κ.due) e
   have io:=ok.w o om
   have du':=du
   unfold Kp.due at du'
   rw [Bool.and_eq_true,decide_eq_true_eq,decide_eq_true_eq] at du'
   obtain ⟨p0,p1,_⟩:=zy.mp io
   obtain ⟨g0,eg⟩:=k.nm o.p p0 (by omega)
   have el:((ofP o.p κ.done).length:Int) = gI κ.ph o.p:=by
    have:=congrArg List.length eg
    rw [List.length_map] at this
    rw [this]
    unfold upTo
    rw [List.length_map,List.length_range]
    omega
   have zs:KZ L n ns (κ.step o):=⟨z.hn,z.hl,z.uc,z.ul,fun u hu=>z.wl u (List.mem_of_mem_erase hu),z.ck,z.cp,.snoc z.hi io (show o.n = ((ofP o.p κ.done).length:Int) by omega) (by show o.m ≤ gI (jy5 ns κ.done) o.p; rw [← k.he]; exact du'.2)⟩
   have r:=KZ.go (m:=m) lo zs (k.step ok io (z.wl o om) om du) (ok.step o)
   refine ⟨r.z,r.ch,r.hd,fun u hu=>r.dm u (List.mem_append_left _ hu),fun u hu=>?_⟩
   by_cases y:u = o
   ·subst y
    exact .inl (r.dm u (List.mem_append_right _ (List.mem_singleton.mpr rfl)))
   ·exact r.wm u ((List.mem_erase_of_ne y).mpr hu)
theorem KX.add {C:O → Bool} (lo : ∀ o ∈ L,xk n o = true) (k:KX L C n ns κ) (ok : κ.Ok n) {o:O} (ol:o ∈ L) (cb:C o = true) (no : ¬ o ∈ κ.wait) (np : ¬ κ.past o = true) : KX L C n ns { κ with wait:=κ.wait ++ [o] } ∧ Kp.Ok n { κ with wait:=κ.wait ++ [o] }:=by
 refine ⟨⟨k.he,k.h0,k.hs,k.nm,k.dl,fun u hu=>?_,fun u hu hd=>?_⟩,⟨ok.h,ok.x,ok.u,fun u hu=>?_,List.nodup_append.mpr ⟨ok.nd,by simp,fun x hx y hy e=>by rw [List.mem_singleton.mp hy] at e; subst e; exact no hx⟩⟩⟩
 ·rcases List.mem_append.mp hu with hu | hu
  ·exact k.wc u hu
  ·rw [List.mem_singleton.mp hu]; exact cb
 ·rcases List.mem_append.mp hu with hu | hu
  ·exact k.wd u hu hd
  ·rw [List.mem_singleton.mp hu] at hd
   exact np (k.past lo hd)
 ·rcases List.mem_append.mp hu with hu | hu
  ·exact ok.w u hu
  ·rw [List.mem_singleton.mp hu]; exact lo o ol
theorem KZ.take {C:O → Bool} (lo : ∀ o ∈ L,xk n o = true) (z:KZ L n ns κ) (k:KX L C n ns κ) (ok : κ.Ok n) (ca : κ.calm) (b:Bool) {o:O} (ol:o ∈ L) (oc:b = false → C o = true) : Kept L n ns κ (κ.take b o).1 (κ.take b o).2 ∧ (b = false → o ∈ (κ.take b o).1.done ∨ o ∈ (κ.take b o).1.wait ∨ κ.past o = true):=by
 have same:Kept L n ns κ κ []:=⟨z,ca,fun _ h=>h,fun _ h=>(by cases h),fun _ h=>(by cases h),fun _ h=>h,fun _ h=>.inr h,Nat.zero_le _⟩
 unfold Kp.take
 split
 ·rename_i hb
  refine ⟨?_,fun e=>by rw [hb] at e; cases e⟩
  unfold Kp.j1j
  split
  ·exact same
  ·rename_i nh
   have z1:KZ L n ns { κ with kl:=κ.kl ++ [o],unv:=κ.unv ++ [o] }:=by
    refine ⟨List.nodup_append.mpr ⟨z.hn,by simp,fun x hx y hy e=>by rw [List.mem_singleton.mp hy] at e; subst e; exact nh hx⟩,fun u hu=>?_,?_,fun u hu=>?_,z.wl,z.ck,z.cp,z.hi⟩
    ·rcases List.mem_append.mp hu with hu | hu
     ·exact z.hl u hu
     ·rw [List.mem_singleton.mp hu]; exact ol
    ·show (κ.unv ++ [o]).length + κ.cho.length ≤ (κ.kl ++ [o]).length
     rw [List.length_append,List.length_append]
     have:=z.uc
     show κ.unv.length + 1 + κ.cho.length ≤ κ.kl.length + 1
     omega
    ·rcases List.mem_append.mp hu with hu | hu
     ·exact z.ul u hu
     ·rw [List.mem_singleton.mp hu]; exact ol
   have r:=z1.zq ca
   exact ⟨r.z,r.ca,r.mo,r.vt,r.vl,r.dm,r.wm,r.vn⟩
 ·unfold Kp.jp1
  split
  ·rename_i y
   refine ⟨same,fun _=>?_⟩
   rw [Bool.or_eq_true,decide_eq_true_eq] at y
   rcases y with y | y
   ·exact .inr (.inr y)
   ·exact .inr (.inl y)
  ·rename_i nz
   have no : ¬ o ∈ κ.wait:=fun z=>nz (by rw [decide_eq_true z,Bool.or_true])
   have z1:KZ L n ns { κ with wait:=κ.wait ++ [o] }:=by
    refine ⟨z.hn,z.hl,z.uc,z.ul,fun u hu=>?_,z.ck,z.cp,z.hi⟩
    rcases List.mem_append.mp hu with hu | hu
    ·exact z.wl u hu
    ·rw [List.mem_singleton.mp hu]; exact ol
   have np : ¬ κ.past o = true:=fun z=>nz (by rw [z,Bool.true_or])
   obtain ⟨k1,ok1⟩:=k.add lo ok ol (oc (by rename_i nb; simpa using nb)) no np
   have g:=KZ.go (m:=(κ.wait ++ [o]).length) lo z1 k1 ok1
   have ca1:(Kp.j07 { κ with wait:=κ.wait ++ [o] }).calm:=jx1 (Nat.le_refl _)
   have r:=KZ.zq (κ:=Kp.j07 { κ with wait:=κ.wait ++ [o] }) g.z ca1
   refine ⟨⟨r.z,r.ca,fun c hc=>r.mo c (by show c ∈ (Kp.j07 _).cho; rw [show (Kp.j07 { κ with wait:=κ.wait ++ [o] }).cho = _ from g.ch]; exact hc),r.vt,r.vl,fun u hu=>r.dm u (g.dm u hu),fun u hu=>?_,r.vn⟩,fun _=>?_⟩
   ·rcases g.wm u (List.mem_append_left _ hu) with h | h
    ·exact .inl (r.dm u h)
    ·exact r.wm u h
   ·rcases g.wm o (List.mem_append_right _ (List.mem_singleton.mpr rfl)) with h | h
    ·exact .inl (r.dm o h)
    ·rcases r.wm o h with h | h
     ·exact .inl h
     ·exact .inr (.inl h)
end
def unc (ω : Wd) (L:List O) : Nat:=(L.filter fun o=>!ω.carried o).length
structure Gz (ω : Wd) (T F:Nat) (L:List O) (ls ns:List Int) : Prop where
 ok : ω.Ok
 l:L.length ≤ T
 lo : ∀ o ∈ L,xk ω.n o = true
 mw : ∀ o ∈ L,ω.may o
 ks : ∀ c ∈ ω.ks,KX L ω.carried ω.n ns c.2 ∧ KZ L ω.n ns c.2 ∧ c.2.calm
 g:WG ω L (ω.ks.map (·.1) ++ ls)
 wl : ω.way.length + ω.ks.length * unc ω L ≤ F
 al : ∀ row ∈ ω.asked,row.length ≤ T
 e1 : 1 ≤ ω.en
 vt : ∀ c ∈ ω.ks,∀ o,c.1 ∈ jx ω.bd (vu o) → ((o.p,o.n),o) ∈ c.2.cho
 pp : ∀ c ∈ ω.ks,∀ o,ω.carried o = true → (false,c.1,o) ∈ ω.way ∨ o ∈ c.2.done ∨ o ∈ c.2.wait
 dj : ∀ c ∈ ω.ks,c.1 ∉ ls
 qu:((ω.ks.length + ls.length + ls.length:Nat) : Int) < 2 * ω.en
 nl:ns.length = ω.n
theorem j7b {α : Type} (p : α → Bool) : ∀ xs:List α,(xs.filter p).length + (xs.filter fun x=>!p x).length = xs.length
 | []=>rfl
 | x :: xs=>by
  have:=j7b p xs
  cases h:p x <;> simp [h] <;> omega
theorem jym {α : Type} {p q : α → Bool} (h : ∀ x,q x = true → p x = true) : ∀ xs:List α,(xs.filter q).length ≤ (xs.filter p).length
 | []=>Nat.le_refl _
 | x :: xs=>by
  have:=jym h xs
  cases hq:q x with
  | true=>rw [List.filter_cons_of_pos hq,List.filter_cons_of_pos (h x hq)]; simpa using this
  | false=>
   rw [List.filter_cons_of_neg (by simp [hq])]
   cases hp:p x with
   | true=>rw [List.filter_cons_of_pos hp,List.length_cons]; omega
   | false=>rw [List.filter_cons_of_neg (by simp [hp])]; exact this
theorem j1s {α : Type} {p q : α → Bool} (h : ∀ x,q x = true → p x = true) {y : α} (hp:p y = true) (hq:q y = false) : ∀ {xs:List α},y ∈ xs → (xs.filter q).length + 1 ≤ (xs.filter p).length
 | x :: xs,hy=>by
  rcases List.mem_cons.mp hy with rfl | hy
  ·rw [List.filter_cons_of_neg (by simp [hq]),List.filter_cons_of_pos hp,List.length_cons]
   have:=jym h xs
   omega
  ·have:=j1s h hp hq hy
   cases hqx:q x with
   | true=>rw [List.filter_cons_of_pos hqx,List.filter_cons_of_pos (h x hqx),List.length_cons,List.length_cons]; omega
   | false=>
    rw [List.filter_cons_of_neg (by simp [hqx])]
    cases hpx:p x with
    | true=>rw [List.filter_cons_of_pos hpx,List.length_cons]; omega
    | false=>rw [List.filter_cons_of_neg (by simp [hpx])]; exact this
theorem juw {α β : Type} : ∀ {xs:List (α × β)} {k : α} {a b : β},(xs.map (·.1)).Nodup → (k,a) ∈ xs → (k,b) ∈ xs → a = b
 | x :: xs,k,a,b,nd,ha,hb=>by
  rw [List.map_cons,List.nodup_cons] at nd
  rcases List.mem_cons.mp ha with e1 | e1
  ·rcases List.mem_cons.mp hb with e2 | e2
   ·rw [← e1] at e2
    exact (Prod.mk.inj e2).2.symm
   ·exact absurd (List.mem_map_of_mem (f:=(·.1)) e2) (by rw [← e1] at nd; exact nd.1)
  ·rcases List.mem_cons.mp hb with e2 | e2
   ·exact absurd (List.mem_map_of_mem (f:=(·.1)) e1) (by rw [← e2] at nd; exact nd.1)
   ·exact juw nd.2 e1 e2
section
variable {ω : Wd} {T F T' F':Nat} {L:List O} {ls ns:List Int}
theorem Gz.mono (g:Gz ω T F L ls ns) (hT:T ≤ T') (hF:F ≤ F') : Gz ω T' F' L ls ns:=⟨g.ok,Nat.le_trans g.l hT,g.lo,g.mw,g.ks,g.g,Nat.le_trans g.wl hF,fun row hr=>Nat.le_trans (g.al row hr) hT,g.e1,g.vt,g.pp,g.dj,g.qu,g.nl⟩
theorem Gz.un (g:Gz ω T F L ls ns) {o o':O} (c : ω.carried o = true) (c' : ω.carried o' = true) (ep:o.p = o'.p) (en:o.n = o'.n) : o = o':=by
 refine Classical.byContradiction fun ne=>?_
 have inn : ∀ k,(jx ω.bd k).Nodup ∧ ∀ h ∈ jx ω.bd k,h ∈ ω.ks.map (·.1) ++ ls:=fun k=>by
  rcases jml (k:=k) (is:=ω.bd) with e | ⟨x,hx,e⟩
  ·rw [e]
   exact ⟨List.nodup_nil,fun _ z=>by cases z⟩
  ·rw [e]
   exact g.g.b.hn x hx
 obtain ⟨a1,a2⟩:=inn (vu o)
 obtain ⟨b1,b2⟩:=inn (vu o')
 have la:=of_decide_eq_true c
 have lb:=of_decide_eq_true c'
 have v:=g.vt
 have honest : ∀ h ∈ jx ω.bd (vu o),h ∈ jx ω.bd (vu o') → h ∈ ls:=fun h h1 h2=>by
  rcases List.mem_append.mp (a2 h h1) with hk | hl
  ·obtain ⟨c,hc,rfl⟩:=List.mem_map.mp hk
   have e1:=v c hc o h1
   have e2:=v c hc o' h2
   rw [← ep,← en] at e2
   exact absurd (juw ((g.ks c hc).2.1.ck) e1 e2) ne
  ·exact hl
 generalize jx ω.bd (vu o) = A at a1 a2 la honest
 generalize jx ω.bd (vu o') = B at b1 b2 lb honest
 have s1:=j7b (fun x=>decide (x ∈ B)) A
 have i1:(A.filter fun x=>decide (x ∈ B)).length ≤ ls.length:=yw (a1.filter _) fun x hx=>honest x (List.mem_filter.mp hx).1 (of_decide_eq_true (List.mem_filter.mp hx).2)
 have u1:((A.filter fun x=>!decide (x ∈ B)) ++ B).length ≤ (ω.ks.map (·.1) ++ ls).length:=yw (List.nodup_append.mpr ⟨a1.filter _,b1,fun x hx y hy e=>by
   have:=(List.mem_filter.mp hx).2
   rw [e,decide_eq_true hy] at this
   cases this⟩) fun x hx=>by
  rcases List.mem_append.mp hx with hx | hx
  ·exact a2 x (List.mem_filter.mp hx).1
  ·exact b2 x hx
 rw [List.length_append,List.length_append,List.length_map] at u1
 have:=g.qu
 omega
theorem juz (ω : Wd) (h:Int) (o:O) : (∀ k,jx (ω.jew h o).bd k = jx ω.bd k) ∧ (ω.put h o).2 = false ∨ (∀ k,jx (ω.jew h o).bd k = if k = vu o then jx ω.bd (vu o) ++ [h] else jx ω.bd k) ∧ (ω.put h o).2 = decide (((jx ω.bd (vu o)).length:Int) + 1 = ω.en):=by
 rw [jmb]
 unfold Wd.put
 split
 ·exact .inl ⟨fun _=>rfl,rfl⟩
 ·exact .inr ⟨fun k=>jfq,rfl⟩
theorem jzm (ω : Wd) (h:Int) (o:O) : (ω.jew h o).way = ω.way ++ if (ω.put h o).2 = true then ω.ks.map fun c=>(false,c.1,o) else []:=by
 have e1:(ω.put h o).1.way = ω.way ∧ (ω.put h o).1.ks = ω.ks:=by
  unfold Wd.put
  split <;> exact ⟨rfl,rfl⟩
 unfold Wd.jew
 split
 ·show (ω.put h o).1.way ++ (ω.put h o).1.ks.map _ = _
  rw [e1.1,e1.2]
 ·rw [List.append_nil,e1.1]
theorem Gz.jew (g:Gz ω T F L ls ns) {h:Int} {o:O} (hh:h ∈ ω.ks.map (·.1) ++ ls) (ol:o ∈ L) (hv : ∀ c ∈ ω.ks,c.1 = h → ((o.p,o.n),o) ∈ c.2.cho) : Gz (ω.jew h o) T F L ls ns:=by
 have lk:=jgx ω h o
 have cc : ∀ u,ω.carried u = true → (ω.jew h o).carried u = true:=fun u=>jne
 have hs:=juz ω h o
 have ew:=jzm ω h o
 have car : ∀ u,(ω.jew h o).carried u = decide (ω.en ≤ ((jx (ω.jew h o).bd (vu u)).length:Int)):=fun u=>by
  unfold Wd.carried
  rw [lk.e]
 have new : ∀ u,(ω.jew h o).carried u = true → ω.carried u = true ∨ u = o ∧ (ω.put h o).2 = true:=fun u hu=>by
  rw [car u] at hu
  rcases hs with ⟨e,_⟩ | ⟨e,e2⟩
  ·rw [e] at hu
   exact .inl hu
  ·rw [e] at hu
   split at hu
   ·rename_i z
    have uo:u = o:=jie z
    subst uo
    by_cases y : ω.carried u = true
    ·exact .inl y
    ·refine .inr ⟨rfl,?_⟩
     rw [e2]
     have a1:=of_decide_eq_true hu
     rw [List.length_append] at a1
     have a2 : ¬ ω.en ≤ ((jx ω.bd (vu u)).length:Int):=fun q=>y (decide_eq_true q)
     refine decide_eq_true ?_
     have a3 : ω.en ≤ ((jx ω.bd (vu u)).length:Int) + 1:=a1
     omega
   ·exact .inl hu
 have uc : unc (ω.jew h o) L + (if (ω.put h o).2 = true then 1 else 0) ≤ unc ω L:=by
  have im : ∀ u:O,(!(ω.jew h o).carried u) = true → (!ω.carried u) = true:=fun u hu=>by
   cases e : ω.carried u with
   | false=>rfl
   | true=>rw [cc u e] at hu; cases hu
  split
  ·rename_i z
   refine j1s im (y:=o) ?_ ?_ ol
   ·cases e : ω.carried o with
    | false=>rfl
    | true=>
     exfalso
     rcases hs with ⟨_,e2⟩ | ⟨_,e2⟩
     ·rw [e2] at z; cases z
     ·rw [e2] at z
      have:=of_decide_eq_true z
      have:=of_decide_eq_true e
      omega
   ·have:=jyq z
    unfold Wd.carried at this ⊢
    rw [jmb,lk.e,← (jlb ω h o).e,this]
    rfl
  ·exact jym im L
 refine ⟨⟨by rw [lk.n]; exact g.ok.n8,by rw [lk.a,lk.n]; exact g.ok.al,by rw [lk.a,lk.n]; exact g.ok.ao,by rw [lk.k,lk.n]; exact g.ok.ks,by rw [lk.k]; exact g.ok.nd,by rw [lk.k]; exact g.ok.k0,by rw [lk.k]; exact g.ok.k1⟩,g.l,by rw [lk.n]; exact g.lo,fun u hu=>?_,?_,by rw [lk.k]; exact (g.g.jew ol hh).1,?_,by rw [lk.a]; exact g.al,by rw [lk.e]; exact g.e1,?_,?_,by rw [lk.k]; exact g.dj,by rw [lk.k,lk.e]; exact g.qu,by rw [lk.n]; exact g.nl⟩
 ·have:=g.mw u hu
  unfold Wd.may at this ⊢
  rw [lk.c,lk.a]
  exact this
 ·rw [lk.k,lk.n]
  exact fun c hc=>⟨(g.ks c hc).1.mono (fun _ h=>h) cc,(g.ks c hc).2⟩
 ·rw [lk.k,ew,List.length_append]
  have w:=g.wl
  have m:=Nat.mul_le_mul_left ω.ks.length uc
  rw [Nat.mul_add] at m
  split
  ·rename_i z
   rw [if_pos z] at m
   rw [List.length_map]
   omega
  ·rename_i z
   rw [if_neg z] at m
   show ω.way.length + 0 + _ ≤ F
   omega
 ·rw [lk.k]
  intro c hc u hu
  rcases hs with ⟨e,_⟩ | ⟨e,_⟩
  ·rw [e] at hu
   exact g.vt c hc u hu
  ·rw [e] at hu
   split at hu
   ·rename_i z
    have uo:u = o:=jie z
    subst uo
    rcases List.mem_append.mp hu with hu | hu
    ·exact g.vt c hc u hu
    ·exact hv c hc (List.mem_singleton.mp hu)
   ·exact g.vt c hc u hu
 ·rw [lk.k,ew]
  intro c hc u hu
  rcases new u hu with h1 | ⟨rfl,h1⟩
  ·rcases g.pp c hc u h1 with q | q
   ·exact .inl (List.mem_append_left _ q)
   ·exact .inr q
  ·rw [if_pos h1]
   exact .inl (List.mem_append_right _ (List.mem_map_of_mem (f:=fun c:Int × Kp=>(false,c.1,u)) hc))
theorem Gz.zq {h:Int} : ∀ {os:List O} {ω : Wd},Gz ω T F L ls ns → h ∈ ω.ks.map (·.1) ++ ls → (∀ o ∈ os,o ∈ L) → (∀ c ∈ ω.ks,c.1 = h → ∀ o ∈ os,((o.p,o.n),o) ∈ c.2.cho) → Gz (ω.zq h os) T F L ls ns
 | [],_,g,_,_,_=>g
 | o :: os,ω,g,hh,ol,hv=>by
  have lk:=jgx ω h o
  have g1:=g.jew hh (ol o List.mem_cons_self) fun c hc e=>hv c hc e o List.mem_cons_self
  exact Gz.zq (os:=os) g1 (by rw [lk.k]; exact hh) (fun u hu=>ol u (List.mem_cons_of_mem _ hu)) (by rw [lk.k]; exact fun c hc e u hu=>hv c hc e u (List.mem_cons_of_mem _ hu))
theorem Gz.lie (g:Gz ω T F L ls ns) {h:Int} (hh:h ∈ ls) {o:O} (ol:o ∈ L) : Gz (ω.zq h [o]) T F L ls ns:=g.zq (List.mem_append_right _ hh) (fun u hu=>by rw [List.mem_singleton.mp hu]; exact ol) fun c hc e=>absurd hh (by rw [← e]; exact g.dj c hc)
theorem Gz.j1m (g:Gz ω T F L ls ns) {b:Bool} {h:Int} {o:O} (ol:o ∈ L) (hh:h ∈ ω.ks.map (·.1)) (hb:b = false → ω.carried o = true) : Gz { ω with way:=ω.way ++ [(b,h,o)] } T (F + 1) L ls ns:=by
 refine ⟨⟨g.ok.n8,g.ok.al,g.ok.ao,g.ok.ks,g.ok.nd,g.ok.k0,g.ok.k1⟩,g.l,g.lo,g.mw,g.ks,⟨g.g.b,fun x hx=>?_⟩,?_,g.al,g.e1,g.vt,fun c hc u hu=>?_,g.dj,g.qu,g.nl⟩
 ·rcases List.mem_append.mp (show x ∈ ω.way ++ [(b,h,o)] from hx) with hx | hx
  ·exact g.g.y x hx
  ·rw [List.mem_singleton.mp hx]
   exact ⟨ol,hh,hb⟩
 ·have:=g.wl
  show (ω.way ++ [(b,h,o)]).length + ω.ks.length * unc ω L ≤ F + 1
  rw [List.length_append]
  show ω.way.length + 1 + _ ≤ _
  omega
 ·rcases g.pp c hc u hu with q | q
  ·exact .inl (List.mem_append_left _ q)
  ·exact .inr q
theorem jvl (ω : Wd) (o:O) (L:List O) : unc ω (o :: L) ≤ unc ω L + 1:=by
 unfold unc
 rw [List.filter_cons]
 split
 ·rw [List.length_cons]; exact Nat.le_refl _
 ·omega
theorem Gz.more (g:Gz ω T F L ls ns) {o:O} (ho:xk ω.n o = true) (hm : ω.may o) : Gz ω (T + 1) (F + 16) (o :: L) ls ns:=by
 have sub : ∀ u ∈ L,u ∈ o :: L:=fun u h=>List.mem_cons_of_mem _ h
 refine ⟨g.ok,by rw [List.length_cons]; have:=g.l; omega,fun u hu=>?_,fun u hu=>?_,fun c hc=>⟨(g.ks c hc).1.mono sub fun _ h=>h,(g.ks c hc).2.1.mono sub,(g.ks c hc).2.2⟩,⟨g.g.b.mono sub,fun x hx=>?_⟩,?_,fun row hr=>Nat.le_succ_of_le (g.al row hr),g.e1,g.vt,g.pp,g.dj,g.qu,g.nl⟩
 ·rcases List.mem_cons.mp hu with rfl | hu
  ·exact ho
  ·exact g.lo u hu
 ·rcases List.mem_cons.mp hu with rfl | hu
  ·exact hm
  ·exact g.mw u hu
 ·obtain ⟨a,b,c⟩:=g.g.y x hx
  exact ⟨sub _ a,b,c⟩
 ·have:=g.wl
  have m:=Nat.mul_le_mul_left ω.ks.length (jvl ω o L)
  have:=g.ok.k1
  rw [Nat.mul_add] at m
  omega
theorem Gz.j5s (g:Gz ω T F L ls ns) {o:O} {h:Int} (ho:xk ω.n o = true) (hm:o.p ∈ ω.ja6) (hh:h ∈ ω.ks.map (·.1)) : Gz { ω with way:=ω.way ++ [(true,h,o)] } (T + 1) (F + 17) (o :: L) ls ns:=(g.more ho (.inl hm)).j1m List.mem_cons_self hh (fun z=>by cases z)
end
section
variable {ω : Wd} {T F T' F':Nat} {L:List O} {ls ns:List Int}
theorem jx9 {α : Type} {x y : α} : ∀ {xs:List α} {i:Nat},x ∈ xs → xs[i]? = some y → x ≠ y → x ∈ xs.eraseIdx i
 | z :: xs,0,h,e,ne=>by
  rcases List.mem_cons.mp h with rfl | h
  ·exact absurd (Option.some.inj e) ne
  ·exact h
 | z :: xs,i + 1,h,e,ne=>by
  rcases List.mem_cons.mp h with rfl | h
  ·exact List.mem_cons_self
  ·exact List.mem_cons_of_mem _ (jx9 (i:=i) h (by simpa using e) ne)
theorem Gz.past (g:Gz ω T F L ls ns) {c:Int × Kp} (hc:c ∈ ω.ks) {o:O} (ol:o ∈ L) (oc : ω.carried o = true) (h:c.2.past o = true) : o ∈ c.2.done:=by
 obtain ⟨kx,_⟩:=g.ks c hc
 obtain ⟨p0,p1,_,_,_,n0,_⟩:=zy.mp (g.lo o ol)
 obtain ⟨g0,e⟩:=kx.nm o.p p0 (by omega)
 have lt:=of_decide_eq_true h
 have m:o.n ∈ upTo (gI c.2.ph o.p):=List.mem_map.mpr ⟨o.n.toNat,List.mem_range.mpr (by omega),by omega⟩
 rw [← e] at m
 obtain ⟨o',ho',en⟩:=List.mem_map.mp m
 obtain ⟨m1,m2⟩:=List.mem_filter.mp ho'
 have:o = o':=g.un oc (kx.dl o' m1).2 (of_decide_eq_true m2).symm en.symm
 rw [this]
 exact m1
theorem Kp.big (κ : Kp) : KSz κ (κ.kl.length + (κ.unv.length + κ.cho.length) + (κ.done.length + κ.wait.length)):=⟨by omega,by omega,by omega⟩
theorem j13 {n:Nat} {κ : Kp} (z:KZ L n ns κ) (ok : κ.Ok n) (b:Bool) {o:O} (ol:o ∈ L) (ho:xk n o = true) : (κ.take b o).1.Ok n:=(KIn.take ⟨ok,κ.big,z.ul,z.wl⟩ b ol ho).1.ok
theorem Gz.j3n (g:Gz ω T F L ls ns) {i:Nat} {l:Bool × Int × O} {κ : Kp} (el : ω.way[i]? = some l) (ek : ω.keep l.2.1 = some κ) : Gz (ω.j3n i l κ) T (F - 1) L ls ns:=by
  obtain ⟨lL,lh,lc⟩:=g.g.y l (List.mem_of_getElem? el)
  obtain ⟨κ',ek',km⟩:=jj1 lh
  rw [ek] at ek'
  cases ek'
  obtain ⟨kx,kz,ca⟩:=g.ks _ km
  have ok : κ.Ok ω.n:=g.ok.ks _ km
  have lt:=(List.getElem?_eq_some_iff.mp el).1
  obtain ⟨r,rp⟩:=kz.take g.lo kx ok ca l.1 lL lc
  have kx1:=kx.take g.lo ok kz.wl l.1 lL lc
  have ok1:=j13 kz ok l.1 lL (g.lo _ lL)
  have ekeys:=jtu ω.ks l.2.1 (κ.take l.1 l.2.2).1
  have split : ∀ c ∈ jnt ω.ks l.2.1 (κ.take l.1 l.2.2).1,(c.1 = l.2.1 ∧ c.2 = (κ.take l.1 l.2.2).1) ∨ (c ∈ ω.ks ∧ c.1 ≠ l.2.1):=fun c hc=>by
    obtain ⟨c',hc',rfl⟩:=List.mem_map.mp hc
    split
    · exact .inl ⟨rfl,rfl⟩
    · rename_i z
      exact .inr ⟨hc',z⟩
  have mid:Gz { ω with way:=ω.way.eraseIdx i,ks:=jnt ω.ks l.2.1 (κ.take l.1 l.2.2).1 } T (F - 1) L ls ns:=by
    refine ⟨⟨g.ok.n8,g.ok.al,g.ok.ao,fun c hc=>?_,by show ((jnt ω.ks l.2.1 _).map _).Nodup; rw [ekeys]; exact g.ok.nd,by show 0 < (jnt _ _ _).length; rw [jh8]; exact g.ok.k0,by show (jnt _ _ _).length ≤ 16; rw [jh8]; exact g.ok.k1⟩,g.l,g.lo,g.mw,fun c hc=>?_,?_,?_,g.al,g.e1,fun c hc u hu=>?_,fun c hc u hu=>?_,fun c hc=>?_,by show (((jnt _ _ _).length + _ + _:Nat) : Int) < _; rw [jh8]; exact g.qu,g.nl⟩
    · rcases split c hc with ⟨e1,e2⟩ | ⟨h1,_⟩
      · rw [e2]; exact ok1
      · exact g.ok.ks c h1
    · rcases split c hc with ⟨e1,e2⟩ | ⟨h1,_⟩
      · rw [e2]; exact ⟨kx1,r.z,r.ca⟩
      · exact g.ks c h1
    · show WG _ L ((jnt ω.ks l.2.1 _).map (·.1) ++ ls)
      rw [ekeys]
      refine ⟨g.g.b,fun x hx=>?_⟩
      obtain ⟨a,b,c⟩:=g.g.y x (List.mem_of_mem_eraseIdx hx)
      exact ⟨a,by show _ ∈ (jnt ω.ks l.2.1 _).map (·.1); rw [ekeys]; exact b,c⟩
    · show (ω.way.eraseIdx i).length + (jnt _ _ _).length * unc ω L ≤ F - 1
      rw [jh8,List.length_eraseIdx_of_lt lt]
      have:=g.wl
      omega
    · rcases split c hc with ⟨e1,e2⟩ | ⟨h1,_⟩
      · rw [e2]
        rw [e1] at hu
        exact r.mo _ (g.vt _ km u hu)
      · exact g.vt c h1 u hu
    · rcases split c hc with ⟨e1,e2⟩ | ⟨h1,h2⟩
      · rw [e1,e2]
        rcases g.pp _ km u hu with q | q | q
        · by_cases y:(false,l.2.1,u) = l
          · have e:l.1 = false:=by rw [← y]
            have eu:l.2.2 = u:=by rw [← y]
            subst eu
            rcases rp e with h | h | h
            · exact .inr (.inl h)
            · exact .inr (.inr h)
            · exact .inr (.inl (r.dm _ (g.past km lL (lc e) h)))
          · exact .inl (jx9 q el y)
        · exact .inr (.inl (r.dm u q))
        · exact .inr (r.wm u q)
      · rcases g.pp c h1 u hu with q | q
        · exact .inl (jx9 q el fun y=>h2 (by rw [← y]))
        · exact .inr q
    · rcases split c hc with ⟨e1,_⟩ | ⟨h1,_⟩
      · rw [e1]; exact g.dj _ km
      · exact g.dj c h1
  refine mid.zq (h:=l.2.1) (by show _ ∈ (jnt ω.ks l.2.1 _).map (·.1) ++ ls; rw [ekeys]; exact List.mem_append_left _ lh) r.vl fun c hc e u hu=>?_
  rcases split c hc with ⟨_,e2⟩ | ⟨_,h2⟩
  · rw [e2]; exact r.vt u hu
  · exact absurd e h2
theorem Gz.ask (g:Gz ω T F L ls ns) (hT:T ≤ 90) {p g' m:Int} {row:List O} (hp : 0 ≤ p ∧ p < (ω.n:Int)) (hg : 0 ≤ g' ∧ g' < (ω.n:Int)) (ng:g' ≠ p) (hm : 1 ≤ m ∧ m ≤ 1000) (er : ω.asked[p.toNat]? = some row) : Gz (ω.asks ⟨p,row.length,g',m⟩ row) (T + 1) (F + 32) (⟨p,row.length,g',m⟩ :: L) ls ns:=by
  have lr:=g.al row (List.mem_of_getElem? er)
  have lp:=(List.getElem?_eq_some_iff.mp er).1
  have ho:xk ω.n ⟨p,row.length,g',m⟩ = true:=zy.mpr ⟨hp.1,by show p ≤ (ω.n:Int) - 1; omega,hg.1,by show g' ≤ (ω.n:Int) - 1; omega,fun z=>ng z.symm,by show (0:Int) ≤ row.length; omega,by show (row.length:Int) ≤ 99; omega,hm.1,hm.2⟩
  generalize eo:(⟨p,row.length,g',m⟩ : O) = o at ho
  have op:o.p = p:=by rw [← eo]
  have sub : ∀ u ∈ L,u ∈ o :: L:=fun u h=>List.mem_cons_of_mem _ h
  have ea:(ω.asks o row).asked = ω.asked.set p.toNat (row ++ [o]):=by rw [← op]; rfl
  refine ⟨⟨g.ok.n8,by rw [ea,List.length_set]; exact g.ok.al,fun r hr u hu=>?_,g.ok.ks,g.ok.nd,g.ok.k0,g.ok.k1⟩,by rw [List.length_cons]; have:=g.l; omega,fun u h=>?_,fun u h=>?_,fun c hc=>⟨(g.ks c hc).1.mono sub fun _ h=>h,(g.ks c hc).2.1.mono sub,(g.ks c hc).2.2⟩,⟨g.g.b.mono sub,fun x hx=>?_⟩,?_,fun r hr=>?_,g.e1,g.vt,fun c hc u hu=>?_,g.dj,g.qu,g.nl⟩
  · rw [ea] at hr
    rcases List.mem_or_eq_of_mem_set hr with hr | rfl
    · exact g.ok.ao r hr u hu
    · rcases List.mem_append.mp hu with h | h
      · exact g.ok.ao row (List.mem_of_getElem? er) u h
      · rw [List.mem_singleton.mp h]; exact ho
  · rcases List.mem_cons.mp h with rfl | h
    · exact ho
    · exact g.lo u h
  · show u.p ∈ ω.ja6 ∨ ∃ row',(ω.asks o row).asked[u.p.toNat]? = some row' ∧ u ∈ row'
    rw [ea]
    rcases List.mem_cons.mp h with rfl | h
    · rw [op]
      exact .inr ⟨_,List.getElem?_set_self lp,List.mem_append_right _ (List.mem_singleton.mpr rfl)⟩
    · rcases g.mw u h with h | ⟨row',e,h⟩
      · exact .inl h
      · by_cases z:u.p.toNat = p.toNat
        · rw [z] at e ⊢
          rw [er] at e
          cases e
          exact .inr ⟨_,List.getElem?_set_self lp,List.mem_append_left _ h⟩
        · exact .inr ⟨row',by rw [List.getElem?_set_ne (fun y=>z y.symm)]; exact e,h⟩
  · rcases List.mem_append.mp (show x ∈ ω.way ++ ω.ks.map fun c=>(true,c.1,o) from hx) with hx' | hx'
    · obtain ⟨a,b,c⟩:=g.g.y x hx'
      exact ⟨sub _ a,b,c⟩
    · obtain ⟨c,hc,rfl⟩:=List.mem_map.mp hx'
      exact ⟨List.mem_cons_self,List.mem_map_of_mem hc,fun z=>by cases z⟩
  · show (ω.way ++ ω.ks.map fun c=>(true,c.1,o)).length + ω.ks.length * unc ω (o :: L) ≤ F + 32
    rw [List.length_append,List.length_map]
    have:=g.wl
    have m':=Nat.mul_le_mul_left ω.ks.length (jvl ω o L)
    have:=g.ok.k1
    rw [Nat.mul_add] at m'
    omega
  · rw [ea] at hr
    rcases List.mem_or_eq_of_mem_set hr with hr | rfl
    · exact Nat.le_succ_of_le (g.al r hr)
    · rw [List.length_append]
      show row.length + 1 ≤ T + 1
      omega
  · rcases g.pp c hc u hu with q | q
    · exact .inl (List.mem_append_left _ q)
    · exact .inr q
theorem Gz.row (g:Gz ω T F L ls ns) {p:Int} (h0 : 0 ≤ p) (h1:p < (ω.n:Int)) : ∃ row,ω.asked[p.toNat]? = some row:=⟨_,List.getElem?_eq_getElem (by rw [g.ok.al]; omega)⟩
theorem Gz.way (g:Gz ω T F L ls ns) : ω.way.length ≤ F:=by
 have:=g.wl
 omega
theorem Gz.sz (g:Gz ω T F L ls ns) : Sz ω L.length (ω.ks.length + ls.length) F:=by
 obtain ⟨b1,b2⟩:=g.g.b.len
 refine ⟨b1,fun x hx=>?_,g.way,g.ok.k1⟩
 have:=b2 x hx
 rwa [List.length_append,List.length_map] at this
theorem Gz.ksz (g:Gz ω T F L ls ns) {c:Int × Kp} (hc:c ∈ ω.ks) : KSz c.2 L.length:=by
 obtain ⟨kx,kz,_⟩:=g.ks c hc
 have h1:=yw kz.hn kz.hl
 have h2:=kz.uc
 refine ⟨h1,by omega,?_⟩
 rw [← List.length_append]
 refine yw (List.nodup_append.mpr ⟨kz.hi.nd,(g.ok.ks c hc).nd,fun x hx y hy e=>kx.wd y hy (by rw [← e]; exact hx)⟩) fun x hx=>?_
 rcases List.mem_append.mp hx with hx | hx
 ·exact (kx.dl x hx).1
 ·exact kz.wl x hx
theorem Gz.vn (g:Gz ω T F L ls ns) {c:Int × Kp} (hc:c ∈ ω.ks) (b:Bool) {o:O} (ol:o ∈ L) (oc:b = false → ω.carried o = true) : (c.2.take b o).2.length ≤ L.length:=by
 obtain ⟨kx,kz,ca⟩:=g.ks c hc
 have r:=(kz.take g.lo kx (g.ok.ks c hc) ca b ol oc).1
 exact Nat.le_trans r.vn (yw r.z.hn r.z.hl)
theorem Gz.jp1 (g:Gz ω T F L ls ns) {t:List Int} (h:t ∈ yn ω.bd ω.en) : ∃ o ∈ L,t = vu o ∧ ω.carried o = true:=by
 obtain ⟨x,hx,rfl⟩:=List.mem_map.mp h
 obtain ⟨h1,h2⟩:=List.mem_filter.mp hx
 obtain ⟨o,ol,e⟩:=g.g.b.ks x h1
 obtain ⟨i,hi,ei⟩:=List.mem_iff_getElem.mp h1
 refine ⟨o,ol,e,?_⟩
 unfold Wd.carried
 rw [← e,jv8 g.g.b.nd (by rw [List.getElem?_eq_getElem hi,ei])]
 exact h2
end
theorem j6a {h f:Int} {ns cs ls:List Int} (h1 : 1 ≤ h ∧ h ≤ 16) (hf : 0 ≤ f) (lt : 3 * f < h) (l8:ns.length ≤ 8) (n0 : ∀ x ∈ ns,0 ≤ x) (ll:(ls.length:Int) ≤ f) (lr : ∀ x ∈ ls,0 ≤ x ∧ x < h) (lp:ls.Pairwise (· < ·)) : Gz (w0 h f ns cs ls) 0 0 [] ls ns:=by
 have g:=j58 (cs:=cs) h1 hf lt l8 n0 ll lr
 have kall : ∀ c ∈ (w0 h f ns cs ls).ks,c.2 = kp0 ns ∧ c.1 ∈ jbx ls h.toNat:=fun c hc=>by
  obtain ⟨i,hi,rfl⟩:=List.mem_map.mp (show c ∈ (jbx ls h.toNat).map fun i=>(i,kp0 ns) from hc)
  exact ⟨rfl,hi⟩
 have lk:(w0 h f ns cs ls).ks.length = (jbx ls h.toNat).length:=List.length_map ..
 have cn:(jbx ls h.toNat).Nodup:=by
  unfold jbx
  exact List.Pairwise.filter _ (List.Pairwise.map _ (fun a b hab z=>hab (Int.ofNat.inj z)) List.nodup_range)
 have ln:ls.Nodup:=lp.imp fun hab z=>by omega
 have cl:(jbx ls h.toNat ++ ls).length ≤ ((List.range h.toNat).map fun (i:Nat)=>(i:Int)).length:=yw (List.nodup_append.mpr ⟨cn,ln,fun x hx y hy e=>(jrj hx).2.2 (by rw [e]; exact hy)⟩) fun x hx=>by
  rcases List.mem_append.mp hx with hx | hx
  ·exact (List.mem_filter.mp hx).1
  ·have:=lr x hx
   exact List.mem_map.mpr ⟨x.toNat,List.mem_range.mpr (by omega),by omega⟩
 rw [List.length_append,List.length_map,List.length_range] at cl
 have nc : ∀ o,¬ (w0 h f ns cs ls).carried o = true:=fun o hc=>by
  have:=of_decide_eq_true hc
  have:h - f ≤ (0:Int):=this
  omega
 refine ⟨g.ok,g.l,g.lo,g.mw,fun c hc=>⟨(g.ks c hc).2,?_,?_⟩,g.g,?_,g.al,g.e1,fun c hc o ho=>(by cases ho),fun c hc o ho=>absurd ho (nc o),fun c hc=>(jrj (kall c hc).2).2.2,?_,rfl⟩
 ·rw [(kall c hc).1]
  exact ⟨List.nodup_nil,fun _ z=>(by cases z),Nat.le_refl _,fun _ z=>(by cases z),fun _ z=>(by cases z),List.nodup_nil,fun _ z=>(by cases z),.nil⟩
 ·rw [(kall c hc).1]
  exact fun _ z=>by cases z
 ·show 0 + (w0 h f ns cs ls).ks.length * 0 ≤ 0
  omega
 ·show (((w0 h f ns cs ls).ks.length + ls.length + ls.length:Nat) : Int) < 2 * (h - f)
  rw [lk]
  omega
def jye (ρ : Rho) (To R:Addr) : Prop:=ρ To = some (9,.own 0) ∧ ρ R = some (9,.own 1)
def jqn:Role → Prop:=fun r=>r = (9,.own 0) ∨ r = (9,.own 1)
theorem juv {ρ : Rho} {H H':Hp} {To R:Addr} (tr:jye ρ To R) (k:jp4 To R H H') : Fr (jqn) ρ H ρ H':=fun a u e n=>⟨k a u e (fun z=>n (9,.own 0) (z ▸ tr.1) (.inl rfl)) (fun z=>n (9,.own 1) (z ▸ tr.2) (.inr rfl)),rfl⟩
theorem jxf {ρ : Rho} {H H':Hp} {To R:Addr} (kr:OkR ρ H) (hT:jpy To R H') (k:jp4 To R H H') : OkR ρ H':=fun a r e=>by
  obtain ⟨row,c,t1,t2,_⟩:=hT
  by_cases z:a = To
  · subst z
    exact ⟨_,t1,True.intro⟩
  · by_cases y:a = R
    · subst y
      exact ⟨_,t2,True.intro⟩
    · obtain ⟨u,hu,nu⟩:=kr a r e
      exact ⟨u,k a u hu z y,nu⟩
def jy8 (ts:List Int) : Dt:=.tup (ts.map Dt.int)
def j3q (l:Bool × Int × O) : Dt:=.tup [.str (if l.1 = true then "order" else "paper"),.int l.2.1,jy8 (vu l.2.2)]
theorem jif {α : Type} {K:W.Frag} {H:Hp} {F : α → Dt} {R:V → α → Prop} (h : ∀ x a,R x a → qk K H (F a) x) : ∀ {xs:List V} {as:List α},Paired R xs as → yg K H (as.map F) xs
 | _,_,.nil=>by rw [List.map_nil,yg]
 | _,_,.cons a t=>by
  rw [List.map_cons,yg]
  exact ⟨_,_,rfl,h _ _ a,jif h t⟩
theorem jxo {K:W.Frag} {H:Hp} : ∀ ns:List Int,yg K H (ns.map Dt.int) (ns.map V.int)
 | []=>by rw [List.map_nil,List.map_nil,yg]
 | n :: ns=>by
  rw [List.map_cons,List.map_cons,yg]
  exact ⟨_,_,rfl,by rw [qk],jxo ns⟩
theorem jw5 {K:W.Frag} {H:Hp} {a:Addr} {ts:List Int} (h:SqT K H a (ts.map V.int)) : qk K H (jy8 ts) (.ref a):=by
 unfold jy8
 rw [qk]
 exact ⟨a,_,rfl,h,jxo ts⟩
theorem jmu.j8b {K:W.Frag} {H:Hp} {ρ : Rho} {x:V} {l:Bool × Int × O} (h:jmu H ρ x l) : qk K H (j3q l) x:=by
 obtain ⟨a,q,rfl,n,h1,_,e,_,h2⟩:=h
 cases e
 unfold j3q
 rw [qk]
 refine ⟨a,_,rfl,SqT.of h1,?_⟩
 rw [yg]
 refine ⟨_,_,rfl,by rw [qk]; rfl,?_⟩
 rw [yg]
 refine ⟨_,_,rfl,by rw [qk],?_⟩
 rw [yg]
 exact ⟨_,_,rfl,jw5 (ts:=vu l.2.2) (SqT.of h2),by rw [yg]⟩
theorem jlx : ∀ ls:List (List Int),je0 (ls.map jy8) ≤ 10
 | []=>by rw [List.map_nil]; simp [je0]
 | l :: ls=>by
  have:=jlx ls
  rw [List.map_cons,je0]
  have q : ∀ ts:List Int,je0 (ts.map Dt.int) ≤ 3:=fun ts=>by
   induction ts with
   | nil=>simp [je0]
   | cons t ts ih=>
    rw [List.map_cons,je0]
    simp [jj5]
    omega
  have q2:jj5 (jy8 l) ≤ 10:=by
   unfold jy8
   rw [jj5]
   have:=q l
   omega
  omega
theorem jhp {α : Type} (F : α → Dt) (ls:List α) : eqD (.lst (ls.map F)) (.lst []) = decide (ls = []):=by
 cases ls with
 | nil=>simp [eqD,jo5]
 | cons l ls=>simp [eqD,jo5]
theorem jtm : ∀ ls:List (Bool × Int × O),je0 (ls.map j3q) ≤ 10
 | []=>by rw [List.map_nil]; simp [je0]
 | l :: ls=>by
  have:=jtm ls
  rw [List.map_cons,je0]
  have q:jj5 (j3q l) ≤ 10:=by
   unfold j3q jy8 vu
   simp [jj5,je0]
  omega
theorem OkR.jaz {ρ : Rho} {H:Hp} {a:Addr} {r:Role} {u:HO} (k:OkR ρ H) (h:H a = some u) (n:jt9 u) : OkR (jaz ρ a r) H:=fun b r' e=>by
 by_cases z:b = a
 ·subst z
  exact ⟨u,h,n⟩
 ·rw [xl z] at e
  exact k b r' e
def Un (H:Hp) (ρ : Rho) (a:Addr) (xs:List V) : Prop:=H a = some (.lst xs) ∧ ρ a = none
theorem Un.fr {P:Role → Prop} {ρ ρ':Rho} {H H':Hp} {a:Addr} {xs:List V} (f:Fr P ρ H ρ' H') (h:Un H ρ a xs) : Un H' ρ' a xs:=jp7 f h.1 h.2
theorem jys {P:Role → Prop} {ρ ρ':Rho} {H H':Hp} {To R:Addr} (f:Fr P ρ H ρ' H') (n0 : ¬ P (9,.own 0)) (n1 : ¬ P (9,.own 1)) (h:jpy To R H) (tr:jye ρ To R) : jpy To R H' ∧ jye ρ' To R:=by
 obtain ⟨row,c,t1,t2,t3⟩:=h
 obtain ⟨a1,a2⟩:=jej f t1 tr.1 n0
 obtain ⟨a3,a4⟩:=jej f t2 tr.2 n1
 exact ⟨⟨row,c,a1,a3,t3⟩,a2,a4⟩
theorem j6h {id:Nat} (h:id ≠ 9) (p:Part) : ¬ jqn (id,p):=fun z=>h (by rcases z with z | z <;> exact (Prod.mk.inj z).1)
theorem j2h {H:Hp} {x dx:Addr} {C:Addr} (nx:H x = none) (ndx:H dx = none) (ne:dx ≠ x) {ρ : Rho} {r:Role} (kr:OkR ρ H) : Fr (fun _=>False) ρ H (jaz ρ x r) (upd (upd H dx (.own x)) x (.ins C dx [])) ∧ OkR (jaz ρ x r) (upd (upd H dx (.own x)) x (.ins C dx [])):=by
 have nx1:upd H dx (.own x) x = none:=by rw [je ne.symm]; exact nx
 exact ⟨(Fr.same (jg ndx)).trans (Fr.jnx nx1),(kr.same (jg ndx)).jnx⟩
structure Pt where
 ns:List Int
 cs:List Int
 ls:List Int
 hs:List Int
structure Pt.Ok (p:Pt) : Prop where
 l2 : 2 ≤ p.ns.length
 l8:p.ns.length ≤ 8
 c : ∀ k ∈ p.cs,0 ≤ k ∧ k < (p.ns.length:Int)
 cl:p.cs.length ≤ 1000
 ll:p.ls.length ≤ 5
 h0 : 0 < p.hs.length
 h1:p.hs.length ≤ 16
structure Wl (t:Ad) (H:Hp) (ρ : Rho) (W:WA) (ω : Wd) (T F:Nat) (p:Pt) : Prop where
 o:qo t H ρ 0 W ω
 kr:OkR ρ H
 ly:H W.ly = some (.lst (p.ls.map V.int)) ∧ ρ W.ly = none
 g : ∃ L,Gz ω T F L p.ls p.ns
 n : ω.n = p.ns.length
 c : ω.ja6 = p.cs
 h : ω.ks.map (·.1) = p.hs
 tot:W.tot = p.ns.sum
section
variable {t:Ad} {H H':Hp} {ρ ρ':Rho} {W:WA} {ω ω':Wd} {T F:Nat} {p:Pt} {P:Role → Prop} {To R:Addr}
theorem Wl.fr (f:Fr P ρ H ρ' H') (hP : ∀ q,¬ P (0,q)) (kr:OkR ρ' H') (w:Wl t H ρ W ω T F p) : Wl t H' ρ' W ω T F p:=⟨w.o.fr hP f,kr,jp7 f w.ly.1 w.ly.2,w.g,w.n,w.c,w.h,w.tot⟩
theorem Wl.wait {F2:Nat} (hF:F ≤ F2) (w:Wl t H ρ W ω T F p) : Wl t H ρ W ω (T + 1) F2 p:=⟨w.o,w.kr,w.ly,let ⟨L,g⟩:=w.g; ⟨L,g.mono (by omega) hF⟩,w.n,w.c,w.h,w.tot⟩
structure Sw (t:Ad) (H:Hp) (ρ : Rho) (W:WA) (ω : Wd) (T F:Nat) (p:Pt) (To R:Addr) : Prop where
 w:Wl t H ρ W ω T F p
 tn:jpy To R H
 tr:jye ρ To R
theorem Sw.same (s:wz H H') (x:Sw t H ρ W ω T F p To R) : Sw t H' ρ W ω T F p To R:=⟨x.w.fr (P:=fun _=>False) (Fr.same s) (fun _ z=>z) (x.w.kr.same s),x.tn.same s,x.tr⟩
theorem Sw.draw (x:Sw t H ρ W ω T F p To R) (hT:jpy To R H') (k:jp4 To R H H') : Sw t H' ρ W ω T F p To R ∧ Fr jqn ρ H ρ H':=⟨⟨x.w.fr (juv x.tr k) (j6h (by decide)) (jxf x.w.kr hT k),hT,x.tr⟩,juv x.tr k⟩
theorem Sw.wait (x:Sw t H ρ W ω T (40 * T) p To R) : Sw t H ρ W ω (T + 1) (40 * (T + 1)) p To R:=⟨x.w.wait (by omega),x.tn,x.tr⟩
def jy9:Role → Prop:=fun r=>r.1 = 0 ∨ jqn r
theorem Sw.go (x:Sw t H ρ W ω T F p To R) (f:Fr P ρ H ρ' H') (hP : ∀ r,P r → r.1 = 0) {T2 F2:Nat} (w:Wl t H' ρ' W ω' T2 F2 p) : Sw t H' ρ' W ω' T2 F2 p To R ∧ Fr jy9 ρ H ρ' H':=by
 obtain ⟨a,b⟩:=jys f (fun z=>by cases hP _ z) (fun z=>by cases hP _ z) x.tn x.tr
 exact ⟨⟨w,a,b⟩,f.mono fun r z=>.inl (hP r z)⟩
theorem jsd (f:Fr jqn ρ H ρ' H') : Fr jy9 ρ H ρ' H':=f.mono fun _ z=>.inr z
end
def Gos (t:Ad) (H:Hp) (ρ : Rho) (W:WA) (T:Nat) (p:Pt) (To R:Addr) (Q:VK) : Prop:=∀ ρ' H' ω' v,Sw t H' ρ' W ω' (T + 1) (40 * (T + 1)) p To R → Fr jy9 ρ H ρ' H' → Q v H'
structure Ps (H:Hp) (ρ : Rho) (pa x:Addr) (jbx few:Int) (fo ho be ro:Addr) (p:Pt) : Prop where
 tp:H pa = some (.tup [.ref x,.int jbx,.int few,.ref fo,.ref ho,.ref be,.ref ro]) ∧ ρ pa = none
 fo:Un H ρ fo (p.ls.map V.int)
 ho:Un H ρ ho (p.hs.map V.int)
 be:Un H ρ be (p.ns.map V.int)
 ro:Un H ρ ro (p.cs.map V.int)
theorem Ps.fr {P:Role → Prop} {ρ ρ':Rho} {H H':Hp} {pa x fo ho be ro:Addr} {jbx few:Int} {p:Pt} (f:Fr P ρ H ρ' H') (h:Ps H ρ pa x jbx few fo ho be ro p) : Ps H' ρ' pa x jbx few fo ho be ro p:=⟨jp7 f h.tp.1 h.tp.2,h.fo.fr f,h.ho.fr f,h.be.fr f,h.ro.fr f⟩
theorem Un.neT {t:Ad} {H:Hp} {ρ : Rho} {W:WA} {ω : Wd} {T F:Nat} {p:Pt} {To R a:Addr} {xs:List V} (u:Un H ρ a xs) (x:Sw t H ρ W ω T F p To R) : a ≠ To ∧ a ≠ R:=⟨neu u.2 x.tr.1,neu u.2 x.tr.2⟩
def j3d (K:W.Frag) : Sp:=fun vs H Q _=>∃ (a:Addr) (ns:List Int),vs = [.ref a] ∧ SqL K H a (ns.map V.int) ∧ ∀ T R H',H T = none → H R = none → wz H H' → jpy T R H' → Q (.ref T) H'
def j2q:Sp:=fun vs H Q _=>∃ (T R:Addr) (m:Int),vs = [.ref T,.int m] ∧ jpy T R H ∧ 1 ≤ m ∧ m < 1073741824 ∧ ∀ d H',0 ≤ d → d < m → jpy T R H' → jp4 T R H H' → Q (.int d) H'
def jyy:Sp:=fun vs H Q _=>∃ (T R S:Addr) (xs:List V),vs = [.ref T,.ref S] ∧ jpy T R H ∧ H S = some (.lst xs) ∧ S ≠ T ∧ S ≠ R ∧ 0 < xs.length ∧ xs.length ≤ 1000000 ∧
 ∀ (i:Nat) (x:V) (H':Hp),xs[i]? = some x → jpy T R H' → jp4 T R H H' → Q x H'
theorem jtw (T:Txt K mg t) : yf P w K mg base CX0 1 t.jjn t.jjo ["_law_script"] (j3d K):=by
 refine T.jkm.ok jsz (fun vs H Q E h=>?_) (fun cdv A outer s H vs Q E hr h=>?_)
 ·obtain ⟨a,ns,rfl,_⟩:=h
  rfl
 ·obtain ⟨a,ns,rfl,ha,k⟩:=h
  refine ⟨_,(@jd _ _ _ (j4 (@zk _ _ _ _ (@v8 _ _ _ _ _ (jn7 (jw (jkr hr.units) (pv 0) (@zk _ _ _ _ jf) (qf _)) (jc0 vo rfl T.jiz boot_list (jc (pv 0) jf)) (@zk _ _ _ _ (jc jn jf))) jn rfl rfl)))),?_⟩
  refine ⟨_,rfl,zs0,fun p hp=>?_⟩
  have s1:=jg (o:=.lst []) hp
  refine ⟨.lst (ns.map Dt.int),.lst (([] : List Int).map Dt.int),jao (s1.seq ha),jao (SqL.of ja),jhk _,_,rfl,?_⟩
  rw [js1]
  refine jgn (fun h1=>?_) (fun h1=>?_)
  ·have ne:=nd h1
   refine ⟨_,rfl,a,_,rfl,.inl (s1.seq ha),fun R hR=>?_⟩
   refine ⟨zs2,fun T' hT=>?_⟩
   have s2:=s1.trans (jg (o:=.lst (ns.map V.int)) hR)
   have nRT:R ≠ T':=jk ja hT
   refine k T' R _ (s2.free hT) (s1.free hR) (s2.trans (jg hT)) ⟨ns,0,ja,by rw [je nRT,ja],?_⟩
   cases ns with
   | nil=>exact absurd rfl ne
   | cons x r=>exact Nat.succ_pos _
  ·refine ⟨zs1,fun R hR=>?_⟩
   refine ⟨zs2,fun T' hT=>?_⟩
   have s2:=s1.trans (jg (o:=.lst [.int 0]) hR)
   have nRT:R ≠ T':=jk ja hT
   exact k T' R _ (s2.free hT) (s1.free hR) (s2.trans (jg hT)) ⟨[0],0,ja,by rw [je nRT,ja]; rfl,Nat.one_pos⟩
theorem qa (T:Txt K mg t) : yf P w K mg base CX0 1 t.jju t.jjk ["_law_town_here","_law_many"] j2q:=by
 refine T.qb.ok pe (fun vs H Q E h=>?_) (fun cdv A outer s H vs Q E hr h=>?_)
 ·obtain ⟨a,R,m,rfl,_⟩:=h
  rfl
 ·obtain ⟨To,R,m,rfl,hT,m1,m2,k⟩:=h
  have nTR:=hT.ne
  obtain ⟨row,c,h1,h2,h3⟩:=hT
  refine ⟨_,(@jb _ _ _ _ _ (j8 (i:=2) pe.nd rfl (Or.inl rfl) (jai gc (pv 0) jn (fun _ _=>rfl)))
   (@jb _ _ _ _ _ (jm8 (xn jer (jai gc (pv 0) jn (fun _ _=>rfl)) jn) (j1e (pv 0) jn set_list))
   (@jb _ _ _ _ _ (j8 (i:=3) pe.nd rfl (Or.inl rfl) (xn jle (jai gc (pv 0) jn (fun _ _=>rfl)) (jt jz rfl T.jeo boot_len (jc (pv 2) jf))))
   (@jb _ _ _ _ _ (j8 (i:=4) pe.nd rfl (Or.inl rfl) (jai gc (pv 2) (pv 3) (fun _ _=>rfl)))
   (@jb _ _ _ _ _ (zo (jw j46 (pv 4) jn (qf _)) (@jb _ _ _ _ _ (jm8 (xn jt5 (pv 4) (pv 1)) (j1e (pv 2) (pv 3) set_list))
   (@jd _ _ _ (j4 (xn jle (pv 4) (pv 1))))) qc)
   (@jb _ _ _ _ _ (j8 (i:=5) pe.nd rfl (Or.inl rfl) (xn jle (xn jer (pv 4) (xn jvt jn (jai gc (pv 0) jn (fun _ _=>rfl)))) jn))
   (@jb _ _ _ _ _ (j8 (i:=5) pe.nd rfl (Or.inl rfl) (xn jle (xn j41 (pv 5) jn) jn))
   (@jd _ _ _ (j4 (xn jle (xn jt5 (xn jle (xn jer (xn jvt (xn jt5 (pv 5) jn) jn) (pv 5)) jn) jn) (pv 1))))))))))),?_⟩
  refine ⟨_,rfl,To,_,0,.ref R,rfl,rfl,SqL.of h1,rfl,?_⟩
  refine ⟨_,rfl,To,_,1,.int c,rfl,rfl,SqL.of h1,rfl,_,_,rfl,rfl,?_⟩
  refine ⟨_,rfl,To,_,1,1,rfl,rfl,h1,rfl,?_⟩
  have g1:(upd H To (.lst ([V.ref R,V.int c].set 1 (V.int (c + 1))))) To = some (.lst [.ref R,.int (c + 1)]):=ja
  have g2:(upd H To (.lst ([V.ref R,V.int c].set 1 (V.int (c + 1))))) R = some (.lst (row.map V.int)):=by rw [je nTR.symm]; exact h2
  have kp:jp4 To R H (upd H To (.lst ([V.ref R,V.int c].set 1 (V.int (c + 1))))):=fun b o e n1 _=>by rw [je n1]; exact e
  generalize upd H To (.lst ([V.ref R,V.int c].set 1 (V.int (c + 1)))) = H1 at g1 g2 kp
  have hl:(0:Int) < ((row.map V.int).length:Int):=by rw [List.length_map]; omega
  refine ⟨_,rfl,To,_,1,.int (c + 1),rfl,rfl,SqL.of g1,rfl,_,rfl,R,_,rfl,.inl (SqL.of g2),_,_,rfl,rfl,hl,?_⟩
  rw [List.length_map] at hl ⊢
  have b0 : 0 ≤ (c + 1) % (row.length:Int):=Int.emod_nonneg _ (by omega)
  have b1:(c + 1) % (row.length:Int) < (row.length:Int):=Int.emod_lt_of_pos _ hl
  have b2:((c + 1) % (row.length:Int)).toNat < row.length:=by omega
  refine ⟨_,rfl,_,rfl,R,_,((c + 1) % (row.length:Int)),_,rfl,rfl,SqL.of g2,jhn b0 (get_map b2),?_⟩
  refine ⟨_,rfl,_,_,rfl,rfl,_,rfl,?_⟩
  refine jgn (fun h5=>?_) (fun h5=>?_)
  ·refine ⟨_,rfl,_,rfl,_,_,rfl,rfl,⟨by omega,m2⟩,?_⟩
   refine ⟨_,rfl,_,rfl,R,_,((c + 1) % (row.length:Int)),_,rfl,rfl,g2,js4 b0 (by rw [List.length_map]; exact b2),?_⟩
   rw [ju1]
   refine ⟨_,rfl,_,rfl,_,_,rfl,rfl,(by show (0:Int) < m; omega),?_⟩
   refine k _ _ (Int.emod_nonneg _ (by omega)) (Int.emod_lt_of_pos _ (by omega)) ⟨_,c + 1,by rw [je nTR]; exact g1,ja,by rw [List.length_set]; exact h3⟩ fun b o e n1 n2=>?_
   rw [je n2]
   exact kp b o e n1 n2
  ·have big : ∀ z:Int,(z % 4294967291).natAbs < 2 ^ 64:=fun z=>by
    have u1:=Int.emod_nonneg z (show (4294967291:Int) ≠ 0 by decide)
    have u2:=Int.emod_lt_of_pos z (show (0:Int) < 4294967291 by decide)
    omega
   refine ⟨_,rfl,_,rfl,To,_,1,.int (c + 1),rfl,rfl,SqL.of g1,rfl,_,_,rfl,rfl,.inl ⟨by decide,by decide⟩,_,_,rfl,rfl,_,_,rfl,rfl,(by show (0:Int) < 4294967291; decide),?_⟩
   refine ⟨_,rfl,_,_,rfl,rfl,⟨by decide,by decide,big _⟩,_,_,rfl,rfl,(by show (0:Int) < 4294967279; decide),?_⟩
   refine ⟨_,rfl,_,_,rfl,rfl,⟨by decide,by decide⟩,_,_,rfl,rfl,.inr ⟨by decide,by decide⟩,_,rfl,_,_,rfl,rfl,_,_,rfl,rfl,(by show (0:Int) < 4294967231; decide),_,_,rfl,rfl,⟨by decide,by decide⟩,_,rfl,_,_,rfl,rfl,(by show (0:Int) < m; omega),?_⟩
   exact k _ _ (Int.emod_nonneg _ (by omega)) (Int.emod_lt_of_pos _ (by omega)) ⟨row,c + 1,g1,g2,h3⟩ kp
theorem zb (T:Txt K mg t) : yf P w K mg base CX0 2 t.jj3 t.jkk ["_law_town_here","_law_some_here"] jyy:=by
 refine T.qz.ok jtz (fun vs H Q E h=>?_) (fun cdv A outer s H vs Q E hr h=>?_)
 ·obtain ⟨a,R,S,xs,rfl,_⟩:=h
  rfl
 ·obtain ⟨To,R,S,xs,rfl,hT,hS,n1,n2,l0,l1,k⟩:=h
  refine ⟨_,(@jd _ _ _ (j4 (jai gc (pv 1) (jq (qa T) hr.dn rfl T.qh T.qb.kp T.qg .nil jr (@v8 _ _ _ _ _ (pv 0) (jt jz rfl T.jeo boot_len (jc (pv 1) jf)) rfl rfl)) (fun _ _=>rfl)))),?_⟩
  refine ⟨_,rfl,_,rfl,_,rfl,S,xs,rfl,.inl (SqL.of hS),To,R,_,rfl,hT,by omega,by omega,fun d H' d0 d1 hT' kp=>?_⟩
  have hd:d.toNat < xs.length:=by omega
  exact ⟨S,xs,d,xs[d.toNat],rfl,rfl,SqL.of (kp _ _ hS n1 n2),jhn d0 (by simp [hd]),k d.toNat _ H' (by simp [hd]) hT' kp⟩
def j23:Sp:=fun vs H Q _=>∃ To R n m,vs = [.ref To,.int n,.int m] ∧ jpy To R H ∧ 0 ≤ n ∧ n ≤ 16 ∧ ∀ r (ks:List Int) H',H r = none → jpy To R H' → jp4 To R H H' → H' r = some (.lst (ks.map V.int)) → ks.Pairwise (· < ·) → (∀ k ∈ ks,0 ≤ k ∧ k < n) → (ks.length:Int) ≤ (if 0 ≤ m then m else 0) → Q (.ref r) H'
theorem jnj (T:Txt K mg t) : yf P w K mg base CX0 2 t.jke t.jjw ["_law_town_here","_law_size","_law_most"] j23:=by
 refine T.jff.ok jgw (fun vs H Q E h=>?_) (fun cdv A outer s H vs Q E hr h=>?_)
 ·obtain ⟨To,R,n,m,rfl,_⟩:=h
  rfl
 ·obtain ⟨To,R,n,m,rfl,hT,n0,n6,k⟩:=h
  refine ⟨_,(@jb _ _ _ _ _ (@j8 _ _ 3 _ _ _ _ jgw.nd rfl (Or.inl rfl) (@zk _ _ _ _ jf) (by rfl) (by first | exact .inl rfl | exact .inr rfl))
   (@jb _ _ _ _ _ (jg7 PassesOwn.never rfl (jex rfl T.jjj (jc (pv 1) jf)) (ju (i:=4) jgw.nd rfl (Or.inl rfl)) (@jd _ _ _ (zo (PW.pt (jiy (jw jz1 (jt jz rfl T.jeo boot_len (jc (pv 3) jf)) (pv 2) (qf _)) (jfr (jw jin (jq (qa T) hr.dn rfl T.qh T.qb.kp T.qg .nil jr (@v8 _ _ _ _ _ (pv 0) jn rfl rfl)) jn (qf _))))) (@jd _ _ _ (qe (jj0 PySem.F.plainAttrs_list PySem.F.slot_list_append PySem.F.type_list_append vq (pv 3) (jc (pv 4) jf)))) qc)))
   (@jd _ _ _ (j4 (pv 3))))),?_⟩
  refine ⟨zs0,fun r hr=>?_⟩
  have fr:=hT.fresh hr
  have s1:=jg (o:=.lst []) hr
  refine ⟨_,rfl,n,rfl,by omega,by omega,jpg (lo:=0) (n:=n.toNat) (fun i σ H'=>∃ (v:Option V) (ks:List Int),σ = [some (.ref To),some (.int n),some (.int m),some (.ref r),v] ∧ jpy To R H' ∧ jp4 To R H H' ∧ H' r = some (.lst (ks.map V.int)) ∧ ks.length ≤ i ∧ (ks.length:Int) ≤ (if 0 ≤ m then m else 0) ∧ ks.Pairwise (· < ·) ∧ ∀ z ∈ ks,0 ≤ z ∧ z < (i:Int))
   ⟨none,[],rfl,hT.same s1,fun b o e _ _=>s1 _ _ e,ja,Nat.le_refl _,(by show (0:Int) ≤ _; split <;> omega),.nil,fun z hz=>by cases hz⟩ ?_ ?_⟩
  ·rintro i σ H' hi ⟨v,ks,rfl,hT',kp,hr',l,lm2,up,rg⟩
   have lm:(ks.map V.int).length = ks.length:=List.length_map ..
   refine ⟨_,rfl,r,_,rfl,.inl (SqL.of hr'),_,rfl,_,_,rfl,rfl,_,rfl,?_⟩
   have old : ∃ (v:Option V) (ks':List Int),[some (.ref To),some (.int n),some (.int m),some (.ref r),some (.int (0 + (i:Int)))] = [some (.ref To),some (.int n),some (.int m),some (.ref r),v] ∧ True:=⟨_,[],rfl,trivial⟩
   refine jgn (fun h1=>?_) (fun h1=>?_)
   ·refine ⟨_,rfl,To,R,3,rfl,hT',by decide,by decide,fun d H2 d0 d1 hT2 kp2=>?_⟩
    have hr2:=kp2 _ _ hr' fr.1 fr.2
    have kpH:jp4 To R H H2:=fun b o e x1 x2=>kp2 _ _ (kp b o e x1 x2) x1 x2
    refine ⟨rfl,_,rfl,jgn (fun h2=>?_) (fun h2=>?_)⟩
    ·refine ⟨_,rfl,.inl ⟨rfl,_,SqL.of hr2⟩,_,rfl,r,_,_,rfl,rfl,hr2,xt (by omega),?_⟩
     refine ⟨_,ks ++ [0 + (i:Int)],rfl,?_,fun b o e x1 x2=>?_,by rw [ja,List.map_append]; rfl,?_,?_,?_,fun z hz=>?_⟩
     ·obtain ⟨row,cc,t1,t2,t3⟩:=hT2
      exact ⟨row,cc,by rw [je (Ne.symm fr.1)]; exact t1,by rw [je (Ne.symm fr.2)]; exact t2,t3⟩
     ·rw [je (jk e hr)]
      exact kpH b o e x1 x2
     ·rw [List.length_append]
      show ks.length + 1 ≤ i + 1
      omega
     ·rw [List.length_append]
      have:(ks.length:Int) < m:=by
       have:=of_decide_eq_true h1
       rw [lm] at this
       exact this
      rw [if_pos (by omega)]
      show ((ks.length + 1:Nat) : Int) ≤ m
      omega
     ·rw [List.pairwise_append]
      refine ⟨up,List.pairwise_singleton _ _,fun x hx y hy=>?_⟩
      have:y = 0 + (i:Int):=by simpa using hy
      have:=rg x hx
      omega
     ·rcases List.mem_append.mp hz with y | y
      ·have:=rg z y
       omega
      ·have:z = 0 + (i:Int):=by simpa using y
       omega
    ·exact ⟨_,ks,rfl,hT2,kpH,hr2,by omega,lm2,up,fun z hz=>by have:=rg z hz; omega⟩
   ·exact pq ⟨_,ks,rfl,hT',kp,hr',by omega,lm2,up,fun z hz=>by have:=rg z hz; omega⟩
  ·rintro σ H' ⟨v,ks,rfl,hT',kp,hr',l,lm2,up,rg⟩
   exact ⟨_,rfl,k r ks H' hr hT' kp hr' up (fun z hz=>by have:=rg z hz; omega) lm2⟩
theorem j3e {C a0 a1 a2 a3 a4 a5 a6 a7 a8 a9 a10 a11 a12:Value} {b0 b1 b2 b3 b4 b5 b6 b7 b8 b9 b10 b11 b12:Bool} (h:kinds K C [a0,a1,a2,a3,a4,a5,a6,a7,a8,a9,a10,a11,a12] = [some b0,some b1,some b2,some b3,some b4,some b5,some b6,some b7,some b8,some b9,some b10,some b11,some b12]) :
  W.kitOne K C a0 = some b0 ∧ W.kitOne K C a1 = some b1 ∧ W.kitOne K C a2 = some b2 ∧ W.kitOne K C a3 = some b3 ∧ W.kitOne K C a4 = some b4 ∧ W.kitOne K C a5 = some b5 ∧ W.kitOne K C a6 = some b6 ∧ W.kitOne K C a7 = some b7 ∧
  W.kitOne K C a8 = some b8 ∧ W.kitOne K C a9 = some b9 ∧ W.kitOne K C a10 = some b10 ∧ W.kitOne K C a11 = some b11 ∧ W.kitOne K C a12 = some b12:=by
 unfold kinds at h
 simpa only [List.map_cons,List.map_nil,List.cons.injEq,and_true] using h
def words:List V:=[.str "number",.str "order",.str "houses",.str "house",.str "purse",.str "letter",.str "now",.str "much",.str "paper",.str "cut",.str "text"]
def jwi (K:W.Frag) (t:Ad) : Sp:=fun vs H Q _=>∃ (ea C:Addr) (b0 b1 b2 b3 b4 b5 b6 b7 b8 b9 b10:Bool) (x:V),vs = [.ref ea] ∧ H ea = some (jsk ea (.ref C)) ∧ XIs K C ∧
 kinds K (.ref C) (asked t) = [some b0,some b1,some b2,some b3,some b4,some b5,some b6,some b7,some b8,some b9,some b10,some true,some true] ∧ [b0,b1,b2,b3,b4,b5,b6,b7,b8,b9,b10].count true = 1 ∧
 words[[b0,b1,b2,b3,b4,b5,b6,b7,b8,b9,b10].idxOf true]? = some x ∧ ∀ H',wz H H' → Q x H'
set_option maxHeartbeats 0 in
theorem jhe (T:Txt K mg t) : yf P w K mg base CX0 1 t.jd8 t.jd7 ["_law_caught"] (jwi K t):=by
 refine T.jav.ok xy (fun vs H Q E h=>?_) (fun cdv A outer s H vs Q E hr h=>?_)
 ·obtain ⟨ea,C,b0,b1,b2,b3,b4,b5,b6,b7,b8,b9,b10,x,rfl,_⟩:=h
  rfl
 ·obtain ⟨ea,C,b0,b1,b2,b3,b4,b5,b6,b7,b8,b9,b10,x,rfl,he,hX,hk,hc,hw,k⟩:=h
  obtain ⟨k0,k1,k2,k3,k4,k5,k6,k7,k8,k9,k10,k11,k12⟩:=j3e hk
  refine ⟨_,(@jb _ _ _ _ _ (@j8 _ _ 1 _ _ _ _ xy.nd rfl (Or.inl rfl) (@zk _ _ _ _ (@jmy _ _ _ _ _ _ _ (jt zu rfl T.j5 boot_isinstance (@v8 _ _ _ _ _ (pv 0) (zc (v:=.ref t.jjy) rfl T.jo8 rfl) rfl rfl)) (jt zu rfl T.j5 boot_isinstance (@v8 _ _ _ _ _ (pv 0) (zc (v:=.ref t.jlp) rfl T.jqo rfl) rfl rfl)) (jt zu rfl T.j5 boot_isinstance (@v8 _ _ _ _ _ (pv 0) (zc (v:=.ref t.jjh) rfl T.joe rfl) rfl rfl)) rfl rfl rfl)) (by rfl) (by first | exact .inl rfl | exact .inr rfl))
   (@jb _ _ _ _ _ (j8 (i:=1) xy.nd rfl (Or.inl rfl) (xn jvk (pv 1) (@zk _ _ _ _ (@jmy _ _ _ _ _ _ _ (jt zu rfl T.j5 boot_isinstance (@v8 _ _ _ _ _ (pv 0) (zc (v:=.ref t.jof) rfl T.jtn rfl) rfl rfl)) (jt zu rfl T.j5 boot_isinstance (@v8 _ _ _ _ _ (pv 0) (zc (v:=.ref t.xc) rfl T.jpf rfl) rfl rfl)) (jt zu rfl T.j5 boot_isinstance (@v8 _ _ _ _ _ (pv 0) (zc (v:=.ref t.jl1) rfl T.jqj rfl) rfl rfl)) rfl rfl rfl))))
   (@jb _ _ _ _ _ (j8 (i:=1) xy.nd rfl (Or.inl rfl) (xn jvk (pv 1) (@zk _ _ _ _ (@jmy _ _ _ _ _ _ _ (jt zu rfl T.j5 boot_isinstance (@v8 _ _ _ _ _ (pv 0) (zc (v:=.ref t.p9) rfl T.jrq rfl) rfl rfl)) (jt zu rfl T.j5 boot_isinstance (@v8 _ _ _ _ _ (pv 0) (zc (v:=.ref t.vb) rfl T.joy rfl) rfl rfl)) (jt zu rfl T.j5 boot_isinstance (@v8 _ _ _ _ _ (pv 0) (zc (v:=.ref t.jlr) rfl T.jq0 rfl) rfl rfl)) rfl rfl rfl))))
   (@jb _ _ _ _ _ (j8 (i:=1) xy.nd rfl (Or.inl rfl) (xn jvk (pv 1) (@zk _ _ _ _ (@v8 _ _ _ _ _ (jt zu rfl T.j5 boot_isinstance (@v8 _ _ _ _ _ (pv 0) (zc (v:=.ref t.jri) rfl T.jvn rfl) rfl rfl)) (jt zu rfl T.j5 boot_isinstance (@v8 _ _ _ _ _ (pv 0) (zc (v:=.ref t.jo6) rfl T.js3 rfl) rfl rfl)) rfl rfl))))
   (@jb _ _ _ _ _ (zo (PW.pt (jko (jw j1z (jj0 PySem.F.plainAttrs_list PySem.F.slot_list_count PySem.F.type_list_count jxm (pv 1) (jc jkd jf)) jn (qf _)) (jko (yi (xb (jt zu rfl T.j5 boot_isinstance (@v8 _ _ _ _ _ (pv 0) (zc (v:=.ref t.vc) rfl T.jdt rfl) rfl rfl)))) (je7 (yi (xb (jt zu rfl T.j5 boot_isinstance (@v8 _ _ _ _ _ (pv 0) (jjx (v:=.ty "ValueError") rfl T.jm4 jo9 rfl) rfl rfl)))))))) (@jd _ _ _ (j4 wg)) qc)
   (@jb _ _ _ _ _ (@j8 _ _ 2 _ _ _ _ xy.nd rfl (Or.inl rfl) (@zk _ _ _ _ (@j6x _ _ _ _ _ _ _ _ _ _ _ _ _ _ _ _ _ _ _ _ _ _ _ wg wg wg wg wg wg wg wg wg wg wg rfl rfl rfl rfl rfl rfl rfl rfl rfl rfl rfl)) (by rfl) (by first | exact .inl rfl | exact .inr rfl))
   (@jd _ _ _ (j4 (jai gc (pv 2) (jj0 PySem.F.plainAttrs_list PySem.F.slot_list_index PySem.F.type_list_index jxh (pv 1) (jc jkd jf)) (fun _ _=>rfl)))))))))),?_⟩
  refine ⟨_,rfl,ea,C,_,_,b0,rfl,he,hX,rfl,k0,_,rfl,ea,C,_,_,b1,rfl,he,hX,rfl,k1,_,rfl,ea,C,_,_,b2,rfl,he,hX,rfl,k2,zs3,fun p1 h1=>?_⟩
  have s1:=jg (o:=.lst [.bl b0,.bl b1,.bl b2]) h1
  have he1:=s1 _ _ he
  refine ⟨_,rfl,_,rfl,ea,C,_,_,b3,rfl,he1,hX,rfl,k3,_,rfl,ea,C,_,_,b4,rfl,he1,hX,rfl,k4,_,rfl,ea,C,_,_,b5,rfl,he1,hX,rfl,k5,zs3,fun p2 h2=>?_⟩
  refine ⟨p1,p2,[.bl b0,.bl b1,.bl b2],[.bl b3,.bl b4,.bl b5],rfl,rfl,(by rw [je (jk ja h2)]; exact ja),ja,zs6,fun p3 h3=>?_⟩
  have s3:=(s1.trans (jg (o:=.lst [.bl b3,.bl b4,.bl b5]) h2)).trans (jg (o:=.lst ([.bl b0,.bl b1,.bl b2] ++ [.bl b3,.bl b4,.bl b5])) h3)
  have g3:(upd (upd (upd H p1 (.lst [.bl b0,.bl b1,.bl b2])) p2 (.lst [.bl b3,.bl b4,.bl b5])) p3 (.lst ([.bl b0,.bl b1,.bl b2] ++ [.bl b3,.bl b4,.bl b5]))) p3 = some (.lst [.bl b0,.bl b1,.bl b2,.bl b3,.bl b4,.bl b5]):=ja
  generalize upd (upd (upd H p1 (.lst [.bl b0,.bl b1,.bl b2])) p2 (.lst [.bl b3,.bl b4,.bl b5])) p3 (.lst ([.bl b0,.bl b1,.bl b2] ++ [.bl b3,.bl b4,.bl b5])) = H3 at s3 g3
  have he3:=s3 _ _ he
  refine ⟨_,rfl,_,rfl,ea,C,_,_,b6,rfl,he3,hX,rfl,k6,_,rfl,ea,C,_,_,b7,rfl,he3,hX,rfl,k7,_,rfl,ea,C,_,_,b8,rfl,he3,hX,rfl,k8,zs3,fun p4 h4=>?_⟩
  refine ⟨p3,p4,[.bl b0,.bl b1,.bl b2,.bl b3,.bl b4,.bl b5],[.bl b6,.bl b7,.bl b8],rfl,rfl,(by rw [je (jk g3 h4)]; exact g3),ja,zs9,fun p5 h5=>?_⟩
  have s5:=(s3.trans (jg (o:=.lst [.bl b6,.bl b7,.bl b8]) h4)).trans (jg (o:=.lst ([.bl b0,.bl b1,.bl b2,.bl b3,.bl b4,.bl b5] ++ [.bl b6,.bl b7,.bl b8])) h5)
  have g5:(upd (upd H3 p4 (.lst [.bl b6,.bl b7,.bl b8])) p5 (.lst ([.bl b0,.bl b1,.bl b2,.bl b3,.bl b4,.bl b5] ++ [.bl b6,.bl b7,.bl b8]))) p5 = some (.lst [.bl b0,.bl b1,.bl b2,.bl b3,.bl b4,.bl b5,.bl b6,.bl b7,.bl b8]):=ja
  generalize upd (upd H3 p4 (.lst [.bl b6,.bl b7,.bl b8])) p5 (.lst ([.bl b0,.bl b1,.bl b2,.bl b3,.bl b4,.bl b5] ++ [.bl b6,.bl b7,.bl b8])) = H5 at s5 g5
  have he5:=s5 _ _ he
  refine ⟨_,rfl,_,rfl,ea,C,_,_,b9,rfl,he5,hX,rfl,k9,_,rfl,ea,C,_,_,b10,rfl,he5,hX,rfl,k10,zs2,fun p6 h6=>?_⟩
  refine ⟨p5,p6,[.bl b0,.bl b1,.bl b2,.bl b3,.bl b4,.bl b5,.bl b6,.bl b7,.bl b8],[.bl b9,.bl b10],rfl,rfl,(by rw [je (jk g5 h6)]; exact g5),ja,j7c,fun p7 h7=>?_⟩
  have s7:=(s5.trans (jg (o:=.lst [.bl b9,.bl b10]) h6)).trans (jg (o:=.lst ([.bl b0,.bl b1,.bl b2,.bl b3,.bl b4,.bl b5,.bl b6,.bl b7,.bl b8] ++ [.bl b9,.bl b10])) h7)
  have g7:(upd (upd H5 p6 (.lst [.bl b9,.bl b10])) p7 (.lst ([.bl b0,.bl b1,.bl b2,.bl b3,.bl b4,.bl b5,.bl b6,.bl b7,.bl b8] ++ [.bl b9,.bl b10]))) p7 = some (.lst ([b0,b1,b2,b3,b4,b5,b6,b7,b8,b9,b10].map V.bl)):=ja
  generalize upd (upd H5 p6 (.lst [.bl b9,.bl b10])) p7 (.lst ([.bl b0,.bl b1,.bl b2,.bl b3,.bl b4,.bl b5,.bl b6,.bl b7,.bl b8] ++ [.bl b9,.bl b10])) = H7 at s7 g7
  have he7:=s7 _ _ he
  have hmem:true ∈ [b0,b1,b2,b3,b4,b5,b6,b7,b8,b9,b10]:=List.count_pos_iff.mp (by rw [hc]; decide)
  generalize [b0,b1,b2,b3,b4,b5,b6,b7,b8,b9,b10] = bs at hc hw g7 hmem
  refine ⟨_,rfl,.inl ⟨rfl,_,SqL.of g7⟩,p7,bs,true,rfl,rfl,SqL.of g7,rfl,_,rfl,?_⟩
  refine jgn (fun z=>?_) (fun _=>?_)
  ·exfalso
   rw [hc] at z
   exact absurd z (by decide)
  refine ⟨_,rfl,ea,C,_,_,true,rfl,he7,hX,rfl,k11,_,rfl,pq ?_⟩
  refine ⟨_,rfl,ea,C,_,_,true,rfl,he7,hX,rfl,k12,_,rfl,pq ?_⟩
  refine ⟨j7c,fun p8 h8=>?_⟩
  have s8:=s7.trans (jg (o:=.lst words) h8)
  have g8:=(jg (o:=.lst words) h8) _ _ g7
  refine ⟨_,rfl,_,rfl,.inl ⟨rfl,_,SqL.of g8⟩,p7,bs,true,rfl,rfl,SqL.of g8,hmem,?_⟩
  exact ⟨p8,words,_,x,rfl,rfl,SqL.of ja,jhn (by omega) (by rw [Int.toNat_natCast]; exact hw),k _ s8⟩
theorem je1 (h:Int) : ∀ (os:List O) (ω : Wd),ω.jzd (ω.zq h os)
 | [],ω=>⟨rfl,rfl,rfl,rfl,rfl⟩
 | o :: os,ω=>(jgx ω h o).trans (je1 h os (ω.jew h o))
structure Wd.Kin (ω ω':Wd) : Prop where
 n : ω'.n = ω.n
 c : ω'.ja6 = ω.ja6
 h : ω'.ks.map (·.1) = ω.ks.map (·.1)
theorem Wd.jzd.kin {ω ω':Wd} (l : ω.jzd ω') : ω.Kin ω':=⟨l.n,l.c,by rw [l.k]⟩
theorem jze (ω : Wd) (i:Nat) (l:Bool × Int × O) (κ : Kp) : ω.Kin (ω.j3n i l κ):=by
 have k:=je1 l.2.1 (κ.take l.1 l.2.2).2 { ω with way:=ω.way.eraseIdx i,ks:=jnt ω.ks l.2.1 (κ.take l.1 l.2.2).1 }
 refine ⟨k.n,k.c,?_⟩
 show (Wd.zq _ _ _).ks.map _ = _
 rw [k.k]
 exact jtu _ _ _
section
variable {t:Ad} {H H':Hp} {ρ ρ':Rho} {W:WA} {ω ω':Wd} {T F:Nat} {p:Pt} {P:Role → Prop} {To R:Addr} {L:List O}
theorem Wl.next (w:Wl t H ρ W ω T F p) (f:Fr P ρ H ρ' H') (O':qo t H' ρ' 0 W ω') (kr:OkR ρ' H') {T2 F2:Nat} (g:Gz ω' T2 F2 L p.ls p.ns) (e : ω.Kin ω') : Wl t H' ρ' W ω' T2 F2 p:=⟨O',kr,jp7 f w.ly.1 w.ly.2,⟨L,g⟩,e.n.trans w.n,e.c.trans w.c,e.h.trans w.h,w.tot⟩
end
def jq5 (A:List O) (ω : Wd) : Prop:=∀ o ∈ A,∃ c ∈ ω.ks,o ∈ c.2.done
theorem jy4 {ω : Wd} {T F:Nat} {L:List O} {ls ns:List Int} (g:Gz ω T F L ls ns) {i:Nat} {l:Bool × Int × O} {κ : Kp} (el : ω.way[i]? = some l) (ek : ω.keep l.2.1 = some κ) {A:List O} (h:jq5 A ω) : jq5 A (ω.j3n i l κ):=fun o ho=>by
 obtain ⟨c,hc,hd⟩:=h o ho
 obtain ⟨lL,lh,lc⟩:=g.g.y l (List.mem_of_getElem? el)
 obtain ⟨κ',ek',km⟩:=jj1 lh
 rw [ek] at ek'
 cases ek'
 obtain ⟨kx,kz,ca⟩:=g.ks _ km
 have r:=(kz.take g.lo kx (g.ok.ks _ km) ca l.1 lL lc).1
 have k:=je1 l.2.1 (κ.take l.1 l.2.2).2 { ω with way:=ω.way.eraseIdx i,ks:=jnt ω.ks l.2.1 (κ.take l.1 l.2.2).1 }
 show ∃ c ∈ (Wd.zq _ _ _).ks,_
 rw [k.k]
 by_cases z:c.1 = l.2.1
 ·have e:c.2 = κ:=juw g.ok.nd (by rw [← z]; exact hc) km
  refine ⟨(l.2.1,(κ.take l.1 l.2.2).1),List.mem_map.mpr ⟨c,hc,if_pos z⟩,r.dm o ?_⟩
  rw [← e]
  exact hd
 ·exact ⟨c,List.mem_map.mpr ⟨c,hc,if_neg z⟩,hd⟩
def jxd (t:Ad) : Sp:=fun vs H Q _=>∃ ρ W ω T F p To R,vs = [.ref To,.ref W.x] ∧ Sw t H ρ W ω T F p To R ∧ p.ls.length ≤ 5 ∧ T ≤ 46 ∧ F ≤ 2000 ∧
 (ω.way = [] → ∀ H',Sw t H' ρ W ω T F p To R → Fr jy9 ρ H ρ H' → Q .non H') ∧
 (0 < F → ∀ ρ' H' ω' a,Sw t H' ρ' W ω' T (F - 1) p To R → Fr jy9 ρ H ρ' H' → (∀ A,jq5 A ω → jq5 A ω') → Q (.ref a) H')
theorem ji8 (T:Txt K mg t) : yf P w K mg base CX0 9 t.jfv t.jfk ["_law_town_here","_law_world_here"] (jxd t):=by
 refine T.jb7.ok jio (fun vs H Q E h=>?_) (fun cdv A outer s H vs Q E hr h=>?_)
 ·obtain ⟨ρ,W,ω,T',F,p,To,R,rfl,_⟩:=h
  rfl
 ·obtain ⟨ρ,W,ω,T',F,p,To,R,rfl,S,l5,hT,hF,k0,k⟩:=h
  refine ⟨_,(@jb _ _ _ _ _ (j8 (i:=2) jio.nd rfl (Or.inl rfl) (jt jz rfl T.jeo boot_len (jc (gr (pv 1) T.ji T.gq (jbm T) hr.dn T.uj .nil jr) jf)))
   (@jd _ _ _ (j4 (jn7 (jw jxt (pv 2) jn (qf _)) (j6 (pv 1) T.ji T.jks (jrt T) hr.dn T.jni .nil jr (jc (jq (qa T) hr.dn rfl T.qh T.qb.kp T.qg .nil jr (@v8 _ _ _ _ _ (pv 0) (pv 2) rfl rfl)) jf)) ji4)))),?_⟩
  obtain ⟨L,g⟩:=S.w.g
  have wl:=g.way
  refine ⟨_,rfl,W.x,W.dx,_,rfl,S.w.o.ob.1,qv,ρ,0,W,ω,rfl,S.w.o,by omega,fun r xs nr px=>?_⟩
  have lx:xs.length = ω.way.length:=Paired.length px
  have s1:=jg (o:=.lst xs) nr
  refine ⟨r,xs,rfl,.inl (SqL.of ja),?_⟩
  have S1:=S.same s1
  have f1:Fr jy9 ρ H ρ (upd H r (.lst xs)):=Fr.same s1
  generalize upd H r (.lst xs) = H1 at S1 f1
  refine ⟨_,rfl,_,_,rfl,rfl,_,rfl,jgn (fun z=>?_) (fun z=>k0 (List.length_eq_zero_iff.mp (by have : ¬ (0:Int) < (xs.length:Int):=fun y=>z (decide_eq_true y); omega)) _ S1 f1)⟩
  have pw : 0 < ω.way.length:=by
   have:=of_decide_eq_true z
   omega
  refine ⟨_,rfl,W.x,W.dx,_,rfl,S1.w.o.ob.1,qv,_,rfl,_,rfl,To,R,(xs.length:Int),rfl,S1.tn,by omega,by omega,fun d H2 d0 d1 hT2 k2=>?_⟩
  obtain ⟨S2,f2⟩:=S1.draw hT2 k2
  obtain ⟨l,el⟩ : ∃ l,ω.way[d.toNat]? = some l:=⟨_,List.getElem?_eq_getElem (by omega)⟩
  obtain ⟨lL,lh,lc⟩:=g.g.y l (List.mem_of_getElem? el)
  obtain ⟨κ,ek,km⟩:=jj1 lh
  have ll:(κ.take l.1 l.2.2).2.length ≤ L.length:=g.vn km l.1 lL lc
  have kz:KSz κ L.length:=g.ksz km
  have e1:=kz.hd
  have e2:=kz.uc
  have e3:=kz.dw
  have z0:=g.l
  have z1:=g.ok.k1
  refine ⟨ρ,0,W,ω,d.toNat,l,κ,_,_,_,by rw [Int.toNat_of_nonneg d0]; rfl,S2.w.o,S2.w.kr,el,ek,g.ok.nd,g.ok.ks _ km,g.ok.n8,g.lo _ lL,⟨by omega,by omega,by omega⟩,g.sz,by omega,by omega,by omega,fun ρ' H' x O' f' kr' ux=>?_⟩
  obtain ⟨S3,f3⟩:=S2.go f' (fun _ z=>z) (S2.w.next f' O' kr' (g.j3n el ek) (jze ω d.toNat l κ))
  obtain ⟨_,_,rfl,_⟩:=ux
  exact k (by omega) ρ' H' _ _ S3 ((f1.trans (jsd f2)).trans f3) fun A h=>jy4 g el ek h
def j2m (t:Ad) : Sp:=fun vs H Q _=>∃ ρ W ω T p To R,Sw t H ρ W ω T (40 * T) p To R ∧ T ≤ 46 ∧ Gos t H ρ W T p To R Q ∧
  ((∃ pu g m,vs = [.str "ask",.ref W.x,.int pu,.int g,.int m] ∧ (0 ≤ pu ∧ pu < (ω.n:Int)) ∧ (0 ≤ g ∧ g < (ω.n:Int)) ∧ g ≠ pu ∧ (1 ≤ m ∧ m ≤ 1000)) ∨
   (∃ h q l,vs = [.str "lie",.ref W.x,.int h,.ref q,.int 0] ∧ h ∈ p.ls ∧ p.ls.length ≤ 5 ∧ zj H ρ (.ref q) l.2.2 ∧ l ∈ ω.way))
set_option maxHeartbeats 0 in
theorem jmw (T:Txt K mg t) : yf P w K mg base CX0 8 t.jjs t.jjl ["_law_kind","_law_world_here","_law_one","_law_two","_law_three"] (j2m t):=by
 refine T.jfj.ok qm (fun vs H Q E h=>?_) (fun cdv A outer s H vs Q E hr h=>?_)
 ·obtain ⟨ρ,W,ω,T',p,To,R,_,_,_,⟨pu,g,m,rfl,_⟩ | ⟨h,q,l,rfl,_⟩⟩:=h
  ·rfl
  ·rfl
 ·obtain ⟨ρ,W,ω,T',p,To,R,S,hT,k,hc⟩:=h
  obtain ⟨L,gn⟩:=S.w.g
  have lway:=gn.way
  have O:=S.w.o
  have kr:=S.w.kr
  have old : ∀ {H' v},wz H H' → Q v H':=fun sm=>k ρ _ ω _ (S.same sm).wait (Fr.same sm)
  rcases hc with ⟨pu,g,m,rfl,hp,hg,ng,hm⟩ | ⟨h,q,l,rfl,hl,l5,uq,lw⟩
  ·refine ⟨_,(@jb _ _ _ _ _ (j8 (i:=5) qm.nd rfl (Or.inl rfl) ji4)
   (@jb _ _ _ _ _ (j8 (i:=6) qm.nd rfl (Or.inl rfl) ji4)
   (@jb _ _ _ _ _ (jyz (i:=7) rfl rfl rfl rfl T.jdt T.jfd qm.nd rfl rfl (fun _ _=>(@jd _ _ _ (zo (jw jin (pv 0) wg (qf _)) (@jd _ _ _ (j8 (i:=5) qm.nd rfl (Or.inl rfl) (jvv (pv 1) T.ji T.jgz (jnf T) hr.dn T.jjg .nil (@jmy _ _ _ _ _ _ _ (pv 2) (pv 3) (pv 4) rfl rfl rfl)))) (@jd _ _ _ (zo (jw jin (pv 0) wg (qf _)) qx (@jd _ _ _ (zo (jw jin (pv 0) wg (qf _)) (@jd _ _ _ (j8 (i:=5) qm.nd rfl (Or.inl rfl) (j6 (pv 1) T.ji T.jdw (jgv T) hr.dn T.jfs .nil jr (@v8 _ _ _ _ _ (pv 2) (pv 3) rfl rfl)))) qx))))))) (fun _=>(@jd _ _ _ (j8 (i:=6) qm.nd rfl (Or.inl rfl) (pv 7)))))
   (@jd _ _ _ (j4 (jn7 (jw jx6 (pv 6) ji4 (qf _)) (pv 5) (jq (jhe T) hr.dn rfl T.jed T.jav.kp T.jd2 .nil jr (jc (pv 6) jf)))))))),?_⟩
   obtain ⟨row,erow⟩:=gn.row hp.1 hp.2
   have lrow:=gn.al row (List.mem_of_getElem? erow)
   refine ⟨fun σ' cls dd H'=>σ' = [some (.str "ask"),some (.ref W.x),some (.int pu),some (.int g),some (.int m),some .non,some .non,none] ∧ wz H H' ∧ (cls = .ref t.p9 ∨ cls = .ref t.vb ∨ cls = .ref t.xc),?_,?_⟩
   ·refine ⟨_,rfl,rfl,_,rfl,jno ?_⟩
    refine ⟨_,rfl,W.x,W.dx,_,rfl,O.ob.1,qv,_,rfl,_,rfl,_,rfl,ρ,0,W,ω,pu,g,m,row,rfl,O,kr,gn.ok,hp,hg,ng,hm,erow,by omega,by omega,fun _ d H' s'=>⟨rfl,s',.inr (.inr rfl)⟩,fun o eo ec H' s'=>⟨rfl,s',.inl rfl⟩,fun hcar M' eM'=>⟨fun lt H' s'=>⟨rfl,s',.inr (.inl rfl)⟩,fun le H' q O' f' kr' uq=>?_⟩⟩
    refine ⟨_,rfl,rfl,_,rfl,jno ⟨_,rfl,?_⟩⟩
    have g2:=(gn.ask (by omega) hp hg ng hm erow).mono (T':=T' + 1) (F':=40 * (T' + 1)) (Nat.le_refl _) (by omega)
    obtain ⟨S2,f2⟩:=S.go f' (fun _ z=>z) (S.w.next f' O' kr' g2 ⟨rfl,rfl,rfl⟩)
    exact k ρ H' _ _ S2 f2
   ·rintro σ' cls dd H' ea ⟨rfl,sm,hw⟩ hea
    have sx : ∀ {u:HO},wz H (upd H' ea u):=fun {u}=>sm.trans (jg hea)
    rcases hw with rfl | rfl | rfl
    ·refine ⟨t.p9,rfl,T.jb2,?_⟩
     refine ⟨_,rfl,ja,?_⟩
     rw [juc]
     refine ⟨_,rfl,rfl,_,rfl,pq ?_⟩
     exact ⟨_,rfl,ea,t.p9,false,false,false,false,false,false,true,false,false,false,false,.str "now",rfl,ja,T.jr9,T.jss,by decide,rfl,fun H'' s''=>old (sx.trans s'')⟩
    ·refine ⟨t.vb,rfl,T.jbc,?_⟩
     refine ⟨_,rfl,ja,?_⟩
     rw [juc]
     refine ⟨_,rfl,rfl,_,rfl,pq ?_⟩
     exact ⟨_,rfl,ea,t.vb,false,false,false,false,false,false,false,true,false,false,false,.str "much",rfl,ja,T.jqz,T.jqu,by decide,rfl,fun H'' s''=>old (sx.trans s'')⟩
    ·refine ⟨t.xc,rfl,T.ja7,?_⟩
     refine ⟨_,rfl,ja,?_⟩
     rw [juc]
     refine ⟨_,rfl,rfl,_,rfl,pq ?_⟩
     exact ⟨_,rfl,ea,t.xc,false,false,false,false,true,false,false,false,false,false,false,.str "purse",rfl,ja,T.jqq,T.jqr,by decide,rfl,fun H'' s''=>old (sx.trans s'')⟩
  ·refine ⟨_,(@jb _ _ _ _ _ (j8 (i:=5) qm.nd rfl (Or.inl rfl) ji4)
   (@jb _ _ _ _ _ (j8 (i:=6) qm.nd rfl (Or.inl rfl) ji4)
   (@jb _ _ _ _ _ (jyz (i:=7) rfl rfl rfl rfl T.jdt T.jfd qm.nd rfl rfl (fun _ _=>(@jd _ _ _ (zo (jw jin (pv 0) wg (qf _)) (@jd _ _ _ (j8 (i:=5) qm.nd rfl (Or.inl rfl) (jvv (pv 1) T.ji T.jgz (jnf T) hr.dn T.jjg .nil (@jmy _ _ _ _ _ _ _ (pv 2) (pv 3) (pv 4) rfl rfl rfl)))) (@jd _ _ _ (zo (jw jin (pv 0) wg (qf _)) qx (@jd _ _ _ (zo (jw jin (pv 0) wg (qf _)) (@jd _ _ _ (j8 (i:=5) qm.nd rfl (Or.inl rfl) (j6 (pv 1) T.ji T.jdw (jgv T) hr.dn T.jfs .nil jr (@v8 _ _ _ _ _ (pv 2) (pv 3) rfl rfl)))) qx))))))) (fun _=>(@jd _ _ _ (j8 (i:=6) qm.nd rfl (Or.inl rfl) (pv 7)))))
   (@jd _ _ _ (j4 (jn7 (jw jx6 (pv 6) ji4 (qf _)) (pv 5) (jq (jhe T) hr.dn rfl T.jed T.jav.kp T.jd2 .nil jr (jc (pv 6) jf)))))))),?_⟩
   refine ⟨fun σ' cls dd H'=>False,?_,fun σ' cls dd H' ea z=>z.elim⟩
   obtain ⟨lL,lh,lc⟩:=gn.g.y l lw
   have z:=gn.sz
   have z1:=gn.l
   have z2:=gn.ok.k1
   refine ⟨_,rfl,rfl,_,rfl,pq ?_⟩
   refine ⟨_,rfl,rfl,_,rfl,pq ?_⟩
   refine ⟨_,rfl,rfl,_,rfl,jno ?_⟩
   refine ⟨_,rfl,W.x,W.dx,_,rfl,O.ob.1,qv,_,rfl,_,rfl,ρ,0,W,ω,h,q,l.2.2,p.ls,_,_,_,rfl,O,kr,S.w.ly.1,hl,uq,gn.lo _ lL,gn.mw _ lL,z,by omega,by omega,by omega,fun ρ' H' O' f' kr'=>?_⟩
   refine ⟨_,rfl,rfl,_,rfl,jno ⟨_,rfl,?_⟩⟩
   have g2:=(gn.lie hl lL).mono (T':=T' + 1) (F':=40 * (T' + 1)) (by omega) (by omega)
   obtain ⟨S2,f2⟩:=S.go f' (fun r hr=>by rcases hr with hr | hr | hr <;> rw [hr]) (S.w.next f' O' kr' g2 (je1 h [l.2.2] ω).kin)
   exact k ρ' H' _ _ S2 f2
theorem j37 {p n d:Int} (h0 : 0 ≤ p) (h1:p < n) (d0 : 0 ≤ d) (d1:d < n - 1) : 0 ≤ (p + 1 + d) % n ∧ (p + 1 + d) % n < n ∧ (p + 1 + d) % n ≠ p:=by
 refine ⟨Int.emod_nonneg _ (by omega),Int.emod_lt_of_pos _ (by omega),fun z=>?_⟩
 have e:=Int.mul_ediv_add_emod (p + 1 + d) n
 rw [z] at e
 generalize (p + 1 + d) / n = q at e
 by_cases y:q ≤ 0
 ·have:=Int.mul_le_mul_of_nonneg_left y (show 0 ≤ n by omega)
  omega
 ·have:=Int.mul_le_mul_of_nonneg_left (show 1 ≤ q by omega) (show 0 ≤ n by omega)
  omega
def j0q (t:Ad) : Sp:=fun vs H Q _=>∃ ρ W ω T p To R pa jbx few fo ho be ro pu,vs = [.ref To,.ref pa,.int pu] ∧ Sw t H ρ W ω T (40 * T) p To R ∧ Ps H ρ pa W.x jbx few fo ho be ro p ∧ p.Ok ∧ 0 ≤ pu ∧ pu < (p.ns.length:Int) ∧
 ∀ H' q o,Sw t H' ρ W ω T (40 * T) p To R → Fr jqn ρ H ρ H' → zj H' ρ (.ref q) o → xk p.ns.length o = true → o.p = pu → Q (.ref q) H'
theorem jrp (T:Txt K mg t) : yf P w K mg base CX0 3 t.jgu t.jhg ["_law_town_here","_law_parts","_law_purse"] (j0q t):=by
 refine T.jgr.ok jfx (fun vs H Q E h=>?_) (fun cdv A outer s H vs Q E hr h=>?_)
 ·obtain ⟨ρ,W,ω,T',p,To,R,pa,jbx,few,fo,ho,be,ro,pu,rfl,_⟩:=h
  rfl
 ·obtain ⟨ρ,W,ω,T',p,To,R,pa,jbx,few,fo,ho,be,ro,pu,rfl,S,B,ok,p0,p1,k⟩:=h
  refine ⟨_,(@jb _ _ _ _ _ (j8 (i:=3) jfx.nd rfl (Or.inl rfl) (jt jz rfl T.jeo boot_len (jc (jai ji2 (pv 1) jn (fun _ _=>rfl)) jf)))
   (@jb _ _ _ _ _ (j8 (i:=4) jfx.nd rfl (Or.inl rfl) (xn jle (xn jer (xn jer (pv 2) jn) (jq (qa T) hr.dn rfl T.qh T.qb.kp T.qg .nil jr (@v8 _ _ _ _ _ (pv 0) (xn jlm (pv 3) jn) rfl rfl))) (pv 3)))
   (@jd _ _ _ (j4 (@jm0 _ _ _ _ _ (@j7a _ _ _ _ _ _ _ _ _ (pv 2) (jq (qa T) hr.dn rfl T.qh T.qb.kp T.qg .nil jr (@v8 _ _ _ _ _ (pv 0) jn rfl rfl)) (pv 4) (xn jer jn (jq (zb T) hr.dn rfl T.zi T.qz.kp T.zh .nil jr (@v8 _ _ _ _ _ (pv 0) (@zk _ _ _ _ (@jmy _ _ _ _ _ _ _ jn jn (jq (qa T) hr.dn rfl T.qh T.qb.kp T.qg .nil jr (@v8 _ _ _ _ _ (pv 0) jn rfl rfl)) rfl rfl rfl)) rfl rfl))) rfl rfl rfl rfl)))))),?_⟩
  have l2:=ok.l2
  have l8:=ok.l8
  refine ⟨_,rfl,pa,_,5,.ref be,rfl,rfl,SqT.of B.tp.1,rfl,be,_,rfl,.inl (SqL.of B.be.1),?_⟩
  rw [List.length_map]
  refine ⟨_,rfl,_,_,rfl,rfl,_,rfl,_,rfl,_,_,rfl,rfl,To,R,(p.ns.length:Int) - 1,rfl,S.tn,by omega,by omega,fun d H1 d0 d1 hT1 k1=>?_⟩
  obtain ⟨S1,f1⟩:=S.draw hT1 k1
  obtain ⟨g0,g1,g2⟩:=j37 p0 p1 d0 d1
  refine ⟨_,_,rfl,rfl,_,rfl,_,_,rfl,rfl,(by show (0:Int) < (p.ns.length:Int); omega),?_⟩
  refine ⟨_,rfl,_,rfl,To,R,3,rfl,S1.tn,by decide,by decide,fun n H2 n0 n1 hT2 k2=>?_⟩
  obtain ⟨S2,f2⟩:=S1.draw hT2 k2
  refine ⟨_,rfl,_,rfl,_,rfl,To,R,12,rfl,S2.tn,by decide,by decide,fun m H3 m0 m1 hT3 k3=>?_⟩
  obtain ⟨S3,f3⟩:=S2.draw hT3 k3
  refine ⟨zs3,fun l nl=>?_⟩
  have s3:=jg (o:=.lst [.int 0,.int 4,.int m]) nl
  have S3':=S3.same s3
  obtain ⟨n1',n2'⟩:=S3.tn.fresh nl
  refine ⟨To,R,l,_,rfl,S3'.tn,ja,n1',n2',by show 0 < 3; decide,by show 3 ≤ 1000000; decide,fun i x H4 ex hT4 k4=>?_⟩
  obtain ⟨S4,f4⟩:=S3'.draw hT4 k4
  obtain ⟨v,rfl,v0,v1⟩ : ∃ v,x = V.int v ∧ 0 ≤ v ∧ v ≤ 12:=by
   have:=List.mem_of_getElem? ex
   simp only [List.mem_cons,List.not_mem_nil,or_false] at this
   rcases this with rfl | rfl | rfl
   ·exact ⟨0,rfl,by decide,by decide⟩
   ·exact ⟨4,rfl,by decide,by decide⟩
   ·exact ⟨m,rfl,m0,by omega⟩
  refine ⟨_,_,rfl,rfl,zs4,fun q nq=>?_⟩
  have s5:=jg (o:=.tup [.int pu,.int n,.int ((pu + 1 + d) % (p.ns.length:Int)),.int (1 + v)]) nq
  refine k _ q ⟨pu,n,(pu + 1 + d) % (p.ns.length:Int),1 + v⟩ (S4.same s5) ((((f1.trans f2).trans f3).trans (Fr.same s3)).trans (f4.trans (Fr.same s5))) ⟨q,rfl,S4.w.kr.none nq,ja⟩ (zy.mpr ⟨p0,by show pu ≤ (p.ns.length:Int) - 1; omega,g0,by show (pu + 1 + d) % (p.ns.length:Int) ≤ (p.ns.length:Int) - 1; omega,fun y=>g2 y.symm,n0,by show n ≤ 99; omega,by show 1 ≤ 1 + v; omega,by show 1 + v ≤ 1000; omega⟩) rfl
theorem int_at {zs:List Int} {i:Nat} {x:V} (e:(zs.map V.int)[i]? = some x) : ∃ z,z ∈ zs ∧ x = .int z:=by
 obtain ⟨z,hz,e⟩:=List.mem_map.mp (List.mem_of_getElem? e)
 exact ⟨z,hz,e.symm⟩
theorem jug {t:Ad} {H:Hp} {ρ : Rho} {W:WA} {ω : Wd} {T F:Nat} {p:Pt} {To R a:Addr} {zs:List Int} {Q:VK} (S:Sw t H ρ W ω T F p To R) (u:Un H ρ a (zs.map V.int)) (l0 : 0 < zs.length) (l1:zs.length ≤ 1000) (k : ∀ z H',z ∈ zs → Sw t H' ρ W ω T F p To R → Fr jqn ρ H ρ H' → Q (.int z) H') : jyy [.ref To,.ref a] H Q E0:=by
 obtain ⟨n1,n2⟩:=u.neT S
 refine ⟨To,R,a,_,rfl,S.tn,u.1,n1,n2,by rw [List.length_map]; exact l0,by rw [List.length_map]; omega,fun i x H' ex hT kT=>?_⟩
 obtain ⟨z,hz,rfl⟩:=int_at ex
 obtain ⟨S',f'⟩:=S.draw hT kT
 exact k z H' hz S' f'
def j6i (K:PySem.W.Frag) (t:Ad) : Sp:=fun vs H Q _=>∃ ρ W ω T p To R pa jbx few fo ho be ro sh,vs = [.ref To,.ref pa,.int sh] ∧ Sw t H ρ W ω T (40 * T) p To R ∧ Ps H ρ pa W.x jbx few fo ho be ro p ∧ p.Ok ∧ T ≤ 46 ∧ Gos t H ρ W T p To R Q
set_option maxHeartbeats 0 in
theorem jv4 (T:Txt K mg t) : yf P w K mg base CX0 10 t.jpj t.jok ["_law_town_here","_law_parts","_law_share"] (j6i K t):=by
 refine T.joz.ok zt (fun vs H Q E h=>?_) (fun cdv A outer s H vs Q E hr h=>?_)
 ·obtain ⟨ρ,W,ω,T',p,To,R,pa,jbx,few,fo,ho,be,ro,sh,rfl,_⟩:=h
  rfl
 ·obtain ⟨ρ,W,ω,T',p,To,R,pa,jbx,few,fo,ho,be,ro,sh,rfl,S,B,ok,hT,k⟩:=h
  refine ⟨_,(@jb _ _ _ _ _ (jm8 (pv 1) (jpc rfl (j7 (ju (i:=3) zt.nd rfl (Or.inl rfl)) (j7 (ju (i:=4) zt.nd rfl (Or.inl rfl)) (j7 (ju (i:=5) zt.nd rfl (Or.inl rfl)) (j7 (ju (i:=6) zt.nd rfl (Or.inl rfl)) (j7 (ju (i:=7) zt.nd rfl (Or.inl rfl)) (j7 (ju (i:=8) zt.nd rfl (Or.inl rfl)) (j7 (ju (i:=9) zt.nd rfl (Or.inl rfl)) jj6)))))))))
   (@jb _ _ _ _ _ (j8 (i:=10) zt.nd rfl (Or.inl rfl) (jt jz rfl T.jeo boot_len (jc (pv 8) jf)))
   (@jb _ _ _ _ _ (j8 (i:=11) zt.nd rfl (Or.inl rfl) (jq (qa T) hr.dn rfl T.qh T.qb.kp T.qg .nil jr (@v8 _ _ _ _ _ (pv 0) jn rfl rfl)))
   (@jd _ _ _ (zo (jw jz1 (pv 11) (pv 2) (qf _)) (@jd _ _ _ (qe (jq (ji8 T) hr.dn rfl T.jfb T.jb7.kp T.jfo .nil jr (@v8 _ _ _ _ _ (pv 0) (pv 3) rfl rfl)))) (@jd _ _ _ (zo (PW.pt (jiy (jw jin (xn jle (pv 11) jn) jn (qf _)) (jfr (jw (jkr hr.units) (pv 9) (@zk _ _ _ _ jf) (qf _))))) (@jb _ _ _ _ _ (j8 (i:=12) zt.nd rfl (Or.inl rfl) (jq (jrp T) hr.dn rfl T.jm2 T.jgr.kp T.jm6 .nil jr (@jmy _ _ _ _ _ _ _ (pv 0) (pv 1) (jq (zb T) hr.dn rfl T.zi T.qz.kp T.zh .nil jr (@v8 _ _ _ _ _ (pv 0) (pv 9) rfl rfl)) rfl rfl rfl)))
   (@jb _ _ _ _ _ (qe (j6 (pv 3) T.ji T.jiq (jp0 T) hr.dn T.jk6 .nil jr (@v8 _ _ _ _ _ (pv 12) (jq (zb T) hr.dn rfl T.zi T.qz.kp T.zh .nil jr (@v8 _ _ _ _ _ (pv 0) (pv 7) rfl rfl)) rfl rfl)))
   (@jd _ _ _ (zo (jw (jkr hr.units) (pv 6) (@zk _ _ _ _ jf) (qf _)) (@jd _ _ _ (qe (j6 (pv 3) T.ji T.jdw (jgv T) hr.dn T.jfs .nil jr (@v8 _ _ _ _ _ (jq (zb T) hr.dn rfl T.zi T.qz.kp T.zh .nil jr (@v8 _ _ _ _ _ (pv 0) (pv 6) rfl rfl)) (pv 12) rfl rfl)))) qc)))) (@jd _ _ _ (zo (PW.pt (jiy (jw (jkr hr.units) (pv 6) (@zk _ _ _ _ jf) (qf _)) (jiy (jw (jkr hr.units) (gr (pv 3) T.ji T.gq (jbm T) hr.dn T.uj .nil jr) (@zk _ _ _ _ jf) (qf _)) (jfr (jw jin (jq (qa T) hr.dn rfl T.qh T.qb.kp T.qg .nil jr (@v8 _ _ _ _ _ (pv 0) jn rfl rfl)) jn (qf _)))))) (@jd _ _ _ (qe (jq (jmw T) hr.dn rfl T.jjc T.jfj.kp T.jjt .nil jr (@j6b _ _ _ _ _ _ _ _ _ _ _ wg (pv 3) (jq (zb T) hr.dn rfl T.zi T.qz.kp T.zh .nil jr (@v8 _ _ _ _ _ (pv 0) (pv 6) rfl rfl)) (jai ji2 (jq (zb T) hr.dn rfl T.zi T.qz.kp T.zh .nil jr (@v8 _ _ _ _ _ (pv 0) (gr (pv 3) T.ji T.gq (jbm T) hr.dn T.uj .nil jr) rfl rfl)) jn (fun _ _=>rfl)) jn rfl rfl rfl rfl rfl)))) (@jd _ _ _ (zo (PW.pt (jiy (jw (jkr hr.units) (gr (pv 3) T.ji T.jcm (jhc T) hr.dn T.jd5 .nil jr) (@zk _ _ _ _ jf) (qf _)) (jfr (jw jin (jq (qa T) hr.dn rfl T.qh T.qb.kp T.qg .nil jr (@v8 _ _ _ _ _ (pv 0) jn rfl rfl)) jn (qf _))))) (@jd _ _ _ (qe (j6 (pv 3) T.ji T.jlk (jrd T) hr.dn T.jm3 .nil jr (@v8 _ _ _ _ _ (jq (zb T) hr.dn rfl T.zi T.qz.kp T.zh .nil jr (@v8 _ _ _ _ _ (pv 0) (gr (pv 3) T.ji T.jcm (jhc T) hr.dn T.jd5 .nil jr) rfl rfl)) (jq (zb T) hr.dn rfl T.zi T.qz.kp T.zh .nil jr (@v8 _ _ _ _ _ (pv 0) (pv 7) rfl rfl)) rfl rfl)))) (@jb _ _ _ _ _ (j8 (i:=13) zt.nd rfl (Or.inl rfl) (jq (qa T) hr.dn rfl T.qh T.qb.kp T.qg .nil jr (@v8 _ _ _ _ _ (pv 0) (pv 10) rfl rfl)))
   (@jb _ _ _ _ _ (j8 (i:=14) zt.nd rfl (Or.inl rfl) (xn jle (xn jer (xn jer (pv 13) jn) (jq (qa T) hr.dn rfl T.qh T.qb.kp T.qg .nil jr (@v8 _ _ _ _ _ (pv 0) (xn jlm (pv 10) jn) rfl rfl))) (pv 10)))
   (@jd _ _ _ (qe (jq (jmw T) hr.dn rfl T.jjc T.jfj.kp T.jjt .nil jr (@j6b _ _ _ _ _ _ _ _ _ _ _ wg (pv 3) (pv 13) (pv 14) (xn jer jn (jq (zb T) hr.dn rfl T.zi T.qz.kp T.zh .nil jr (@v8 _ _ _ _ _ (pv 0) (@zk _ _ _ _ (@jmy _ _ _ _ _ _ _ jn jn (jq (qa T) hr.dn rfl T.qh T.qb.kp T.qg .nil jr (@v8 _ _ _ _ _ (pv 0) jn rfl rfl)) rfl rfl rfl)) rfl rfl))) rfl rfl rfl rfl rfl))))))))))))))))),?_⟩
  have l2:=ok.l2
  have l8:=ok.l8
  refine jkx fun N hN=>⟨_,rfl,pa,_,rfl,SqT.of B.tp.1,rfl,_,_,rfl,_,_,rfl,_,_,rfl,_,_,rfl,_,_,rfl,_,_,rfl,_,_,rfl,rfl,?_⟩
  refine hN _ _ (jkx fun N hN=>⟨_,rfl,be,_,rfl,.inl (SqL.of B.be.1),?_⟩)
  rw [List.length_map]
  refine hN _ _ (jkx fun N hN=>⟨_,rfl,To,R,10,rfl,S.tn,by decide,by decide,fun kd H1 kd0 kd1 hT1 k1=>?_⟩)
  obtain ⟨S1,f1⟩:=S.draw hT1 k1
  have B1:=B.fr f1
  refine hN [some (.ref To),some (.ref pa),some (.int sh),some (.ref W.x),some (.int jbx),some (.int few),some (.ref fo),some (.ref ho),some (.ref be),some (.ref ro),some (.int (p.ns.length:Int)),some (.int kd),none,none,none] H1 (ifN fun N hN=>⟨_,rfl,_,rfl,_,_,rfl,rfl,_,rfl,hN _ _ (jgn (fun _=>?_) (fun _=>?_))⟩)
  ·refine ⟨_,rfl,_,rfl,ρ,W,ω,T',40 * T',p,To,R,rfl,S1,ok.ll,hT,by omega,fun _ H' S' f'=>k ρ H' ω _ S'.wait ((jsd f1).trans f'),fun _ ρ' H' ω' a S' f' _=>k ρ' H' ω' _ ⟨S'.w.wait (by omega),S'.tn,S'.tr⟩ ((jsd f1).trans f')⟩
  obtain ⟨L,gn⟩:=S.w.g
  have lway:=gn.way
  have z0:=gn.l
  have z1:=gn.ok.k1
  have z2:=ok.ll
  have bl:=gn.sz.bd
  have bne : ∀ x ∈ ω.bd,x.1 ≠ []:=fun x hx z=>by
   obtain ⟨o,_,e⟩:=gn.g.b.ks x hx
   rw [e] at z
   cases z
  have nilU : ∀ {HB e},HB e = none → qk K (upd HB e (.lst [])) (.lst []) (.ref e):=fun n=>by
   rw [qk]
   exact ⟨_,[],rfl,SqL.of ja,by rw [yg]⟩
  refine' (fun key=>_:(∀ HB,Sw t HB ρ W ω T' (40 * T') p To R → Fr jqn ρ H ρ HB → (_:Hp → Prop) HB) → _) _
  rotate_left
  ·refine ifN fun N hN=>⟨_,rfl,_,_,rfl,rfl,(by show (0:Int) < 2; decide),rfl,_,rfl,jgn (fun _=>?_) (fun _=>hN _ _ (pq ?_))⟩
   rotate_left
   ·exact key H1 S1 f1
   refine ⟨_,rfl,zs0,fun e ne=>?_⟩
   have s2:=jg (o:=.lst []) ne
   have S2:=S1.same s2
   have f2:Fr jqn ρ H ρ (upd H1 e (.lst [])):=f1.trans (Fr.same s2)
   have B2:=B.fr f2
   refine ⟨.lst (p.cs.map Dt.int),.lst [],jao (SqL.of B2.ro.1),nilU ne,jhk _,_,rfl,?_⟩
   rw [jhp]
   generalize upd H1 e (.lst []) = H2 at S2 f2 B2
   refine hN _ _ (jgn (fun z=>?_) (fun _=>?_))
   rotate_left
   ·exact key H2 S2 f2
   have nc : 0 < p.cs.length:=List.length_pos_iff.mpr fun y=>by rw [y] at z; cases z
   refine jkx fun N hN=>⟨_,rfl,_,rfl,_,rfl,_,rfl,jug S2 B2.ro nc ok.cl fun pu H3 hpu S3 f3=>?_⟩
   have B3:=B2.fr f3
   obtain ⟨pu0,pu1⟩:=ok.c pu hpu
   refine ⟨ρ,W,ω,T',p,To,R,pa,jbx,few,fo,ho,be,ro,pu,rfl,S3,B3,ok,pu0,pu1,fun H4 q o S4 f4 uq4 io eo=>?_⟩
   have B4:=B3.fr f4
   refine hN _ _ (jkx fun N hN=>⟨_,rfl,W.x,W.dx,_,rfl,S4.w.o.ob.1,qv,_,rfl,_,rfl,_,rfl,jug S4 B4.ho ok.h0 (by have:=ok.h1; omega) fun h H5 hh S5 f5=>?_⟩)
   have uq5:=uq4.fr f5
   have B5:=B4.fr f5
   have io':xk ω.n o = true:=by rw [S.w.n]; exact io
   have oc:o.p ∈ ω.ja6:=by rw [S.w.c,eo]; exact hpu
   have hk:h ∈ ω.ks.map (·.1):=by rw [S.w.h]; exact hh
   obtain ⟨κ,ek,km⟩:=jj1 hk
   refine ⟨ρ,0,W,ω,q,o,h,κ,rfl,S5.w.o,S5.w.kr,uq5,io',oc,ek,by omega,fun H6 O6 f6 kr6=>?_⟩
   have gn6:=gn.j5s io' oc hk
   obtain ⟨S6,f6'⟩:=S5.go f6 (fun r hr=>by rw [hr]) (S5.w.next f6 O6 kr6 (gn6.mono (T':=T' + 1) (F':=40 * (T' + 1)) (Nat.le_refl _) (by omega)) ⟨rfl,rfl,rfl⟩)
   have F6:Fr jy9 ρ H ρ H6:=(jsd (((f2.trans f3).trans f4).trans f5)).trans f6'
   have B6:=B5.fr f6
   have uq6:=uq5.fr f6
   refine hN _ _ (ifN fun N hN=>⟨_,rfl,zs0,fun e' ne'=>?_⟩)
   have s7:=jg (o:=.lst []) ne'
   have S7:=S6.same s7
   have F7:Fr jy9 ρ H ρ (upd H6 e' (.lst [])):=F6.trans (Fr.same s7)
   have B7:=B6.fr (P:=fun _=>False) (Fr.same s7)
   have uq7:=uq6.fr (P:=fun _=>False) (Fr.same s7)
   refine ⟨.lst (p.ls.map Dt.int),.lst [],jao (SqL.of B7.fo.1),nilU ne',jhk _,_,rfl,?_⟩
   rw [jhp]
   generalize upd H6 e' (.lst []) = H7 at S7 F7 B7 uq7
   refine hN _ _ (jgn (fun z=>?_) (fun _=>k ρ H7 _ _ S7 F7))
   have nl : 0 < p.ls.length:=List.length_pos_iff.mpr fun y=>by rw [y] at z; cases z
   refine ⟨_,rfl,W.x,W.dx,_,rfl,S7.w.o.ob.1,qv,_,rfl,_,rfl,jug S7 B7.fo nl (by omega) fun h' H8 hh' S8 f8=>?_⟩
   have uq8:=uq7.fr f8
   refine ⟨_,rfl,ρ,0,W,_,h',q,o,p.ls,_,_,_,rfl,S8.w.o,S8.w.kr,S8.w.ly.1,hh',uq8,gn6.lo _ List.mem_cons_self,gn6.mw _ List.mem_cons_self,gn6.sz,(by rw [List.length_cons]; omega),(by show ω.ks.length + p.ls.length + 1 ≤ 1000; omega),by omega,fun ρ9 H9 O9 f9 kr9=>?_⟩
   have g9:=(gn6.lie hh' List.mem_cons_self).mono (T':=T' + 1) (F':=40 * (T' + 1)) (Nat.le_refl _) (by omega)
   obtain ⟨S9,f9'⟩:=S8.go f9 (fun r hr=>by rcases hr with hr | hr | hr <;> rw [hr]) (S8.w.next f9 O9 kr9 g9 (je1 h' [o] _).kin)
   exact k ρ9 H9 _ _ S9 ((F7.trans (jsd f8)).trans f9')
  rintro HA SA fA
  refine' (fun key=>_:(∀ HB,Sw t HB ρ W ω T' (40 * T') p To R → Fr jqn ρ H ρ HB → (_:Hp → Prop) HB) → _) _
  rotate_left
  ·refine ifN fun N hN=>⟨_,rfl,zs0,fun e ne=>?_⟩
   have s2:=jg (o:=.lst []) ne
   have S2:=SA.same s2
   have f2:Fr jqn ρ H ρ (upd HA e (.lst [])):=fA.trans (Fr.same s2)
   have B2:=B.fr f2
   refine ⟨.lst (p.ls.map Dt.int),.lst [],jao (SqL.of B2.fo.1),nilU ne,jhk _,_,rfl,?_⟩
   rw [jhp]
   generalize upd HA e (.lst []) = H2 at S2 f2 B2
   refine jgn (fun z=>?_) (fun _=>hN _ _ (pq ?_))
   rotate_left
   ·exact key H2 S2 f2
   have nl : 0 < p.ls.length:=List.length_pos_iff.mpr fun y=>by rw [y] at z; cases z
   refine ⟨_,rfl,W.x,W.dx,_,rfl,S2.w.o.ob.1,qv,ρ,0,W,ω,rfl,S2.w.o,by omega,fun r xs nr px=>⟨zs0,fun e' ne'=>?_⟩⟩
   have s3:=jg (o:=.lst xs) nr
   have s4:=jg (o:=.lst []) ne'
   have S3:=(S2.same s3).same s4
   have f3:Fr jqn ρ H ρ (upd (upd H2 r (.lst xs)) e' (.lst [])):=f2.trans (Fr.same (s3.trans s4))
   have px2:Paired (jmu (upd (upd H2 r (.lst xs)) e' (.lst [])) ρ) xs ω.way:=Paired.pz px fun _ _=>jmu.fr (P:=fun _=>False) (Fr.same (s3.trans s4))
   have hd:qk K (upd (upd H2 r (.lst xs)) e' (.lst [])) (.lst (ω.way.map j3q)) (.ref r):=by
    rw [qk]
    exact ⟨r,xs,rfl,SqL.of (s4 _ _ ja),jif (fun x a h=>jmu.j8b h) px2⟩
   have dl:=jtm ω.way
   refine ⟨_,_,hd,nilU ne',by rw [jj5]; omega,_,rfl,?_⟩
   rw [jhp]
   generalize upd (upd H2 r (.lst xs)) e' (.lst []) = H3 at S3 f3
   refine jgn (fun z=>?_) (fun _=>hN _ _ (pq ?_))
   rotate_left
   ·exact key H3 S3 f3
   have nw : 0 < ω.way.length:=List.length_pos_iff.mpr fun y=>by rw [y] at z; cases z
   refine ⟨_,rfl,To,R,3,rfl,S3.tn,by decide,by decide,fun d H4 d0 d1 hT4 k4=>?_⟩
   obtain ⟨S4,f4⟩:=S3.draw hT4 k4
   have F4:=f3.trans f4
   refine ⟨rfl,_,rfl,hN _ _ (jgn (fun _=>?_) (fun _=>?_))⟩
   rotate_left
   ·exact key H4 S4 F4
   have B4:=B.fr F4
   refine ⟨_,rfl,_,rfl,_,rfl,jug S4 B4.fo nl (by omega) fun h H5 hh S5 f5=>?_⟩
   refine ⟨_,rfl,_,rfl,W.x,W.dx,_,rfl,S5.w.o.ob.1,qv,ρ,0,W,ω,rfl,S5.w.o,by omega,fun r' xs' nr' px'=>?_⟩
   have lx:xs'.length = ω.way.length:=Paired.length px'
   have s6:=jg (o:=.lst xs') nr'
   obtain ⟨n1,n2⟩:=S5.tn.fresh nr'
   have S6:=S5.same s6
   have f6:Fr jqn ρ H ρ (upd H5 r' (.lst xs')):=(F4.trans f5).trans (Fr.same s6)
   refine ⟨To,R,r',xs',rfl,S6.tn,ja,n1,n2,by omega,by omega,fun i x H7 ex hT7 k7=>?_⟩
   obtain ⟨S7,f7⟩:=S6.draw hT7 k7
   obtain ⟨l,el,ul⟩:=qi px' ex
   obtain ⟨a,q,rfl,_,h1,uq⟩:=(ul.fr (P:=fun _=>False) (Fr.same s6)).fr f7
   exact ⟨a,_,2,.ref q,rfl,rfl,SqT.of h1,rfl,ρ,W,ω,T',p,To,R,S7,hT,fun ρ' H' ω' v S' f'=>k ρ' H' ω' _ S' ((jsd (f6.trans f7)).trans f'),.inr ⟨h,q,l,rfl,hh,ok.ll,uq,List.mem_of_getElem? el⟩⟩
  rintro HC SC fC
  refine' (fun key=>_:(∀ HB,Sw t HB ρ W ω T' (40 * T') p To R → Fr jqn ρ H ρ HB → (_:Hp → Prop) HB) → _) _
  rotate_left
  ·refine ifN fun N hN=>⟨_,rfl,W.x,W.dx,_,rfl,SC.w.o.ob.1,qv,ρ,0,W,ω,rfl,SC.w.o,by omega,gn.g.b.nd,bne,fun r vs ts H1 nr s1 q1 q2 q3 h1=>⟨zs0,fun e ne=>?_⟩⟩
   have s2:=jg (o:=.lst []) ne
   have S2:=(SC.same s1).same s2
   have f2:Fr jqn ρ H ρ (upd H1 e (.lst [])):=fC.trans (Fr.same (s1.trans s2))
   have hd:qk K (upd H1 e (.lst [])) (.lst (ts.map jy8)) (.ref r):=by
    rw [qk]
    exact ⟨r,vs,rfl,SqL.of (s2 _ _ h1),jif (fun x a h=>by obtain ⟨a',rfl,q⟩:=h; exact jw5 (SqT.of (s2 _ _ q))) q3⟩
   have dl:=jlx ts
   refine ⟨_,_,hd,nilU ne,by rw [jj5]; omega,_,rfl,?_⟩
   rw [jhp]
   generalize upd H1 e (.lst []) = H2 at S2 f2
   refine jgn (fun z=>?_) (fun _=>hN _ _ (pq ?_))
   rotate_left
   ·exact key H2 S2 f2
   have nt:ts ≠ []:=fun y=>by rw [y] at z; cases z
   have nt2 : 0 < (yn ω.bd ω.en).length:=by
    rw [← q1.length_eq]
    exact List.length_pos_iff.mpr nt
   refine ⟨_,rfl,To,R,4,rfl,S2.tn,by decide,by decide,fun d H3 d0 d1 hT3 k3=>?_⟩
   obtain ⟨S3,f3⟩:=S2.draw hT3 k3
   have F3:=f2.trans f3
   refine ⟨rfl,_,rfl,hN _ _ (jgn (fun _=>?_) (fun _=>?_))⟩
   rotate_left
   ·exact key H3 S3 F3
   refine ⟨_,rfl,W.x,W.dx,_,rfl,S3.w.o.ob.1,qv,_,rfl,_,rfl,W.x,W.dx,_,rfl,S3.w.o.ob.1,qv,ρ,0,W,ω,rfl,S3.w.o,by omega,gn.g.b.nd,bne,fun r' vs' ts' H4 nr' s4 q1' q2' q3' h4=>?_⟩
   have S4:=S3.same s4
   have F4:Fr jqn ρ H ρ H4:=F3.trans (Fr.same s4)
   obtain ⟨n1,n2⟩:=S3.tn.fresh nr'
   have lv:vs'.length = (yn ω.bd ω.en).length:=(Paired.length q3').trans q1'.length_eq
   have lc:(yn ω.bd ω.en).length ≤ ω.bd.length:=by
    unfold yn
    rw [List.length_map]
    exact List.length_filter_le _ _
   refine ⟨To,R,r',vs',rfl,S4.tn,h4,n1,n2,by omega,by omega,fun i x H5 ex hT5 k5=>?_⟩
   obtain ⟨S5,f5⟩:=S4.draw hT5 k5
   obtain ⟨ti,eti,a,rfl,ha⟩:=qi q3' ex
   obtain ⟨o,oL,rfl,oc⟩:=gn.jp1 (q1'.mem_iff.mp (List.mem_of_getElem? eti))
   have uo:zj H4 ρ (.ref a) o:=⟨a,rfl,S4.w.kr.tup ha,ha⟩
   have uo5:=uo.fr f5
   have B5:=B.fr (F4.trans f5)
   refine ⟨_,rfl,_,rfl,jug S5 B5.ho ok.h0 (by have:=ok.h1; omega) fun h H6 hh S6 f6=>?_⟩
   have hk:h ∈ ω.ks.map (·.1):=by rw [S.w.h]; exact hh
   obtain ⟨κ,ek,km⟩:=jj1 hk
   refine ⟨ρ,0,W,ω,a,o,h,κ,rfl,S6.w.o,S6.w.kr,uo5.fr f6,gn.lo _ oL,ek,oc,by omega,fun H7 O7 f7 kr7=>?_⟩
   have g7:=(gn.j1m oL hk (b:=false) fun _=>oc).mono (T':=T' + 1) (F':=40 * (T' + 1)) (by omega) (by omega)
   obtain ⟨S7,f7'⟩:=S6.go f7 (fun r hr=>by rw [hr]) (S6.w.next f7 O7 kr7 g7 ⟨rfl,rfl,rfl⟩)
   exact k ρ H7 _ _ S7 ((jsd ((F4.trans f5).trans f6)).trans f7')
  rintro HD SD fD
  refine jkx fun N hN=>⟨_,rfl,_,rfl,To,R,(p.ns.length:Int),rfl,SD.tn,by omega,by omega,fun pu H1 pu0 pu1 hT1 k1=>?_⟩
  obtain ⟨S1,f1⟩:=SD.draw hT1 k1
  refine hN _ _ (jkx fun N hN=>⟨_,rfl,_,_,rfl,rfl,_,rfl,_,rfl,_,_,rfl,rfl,To,R,(p.ns.length:Int) - 1,rfl,S1.tn,by omega,by omega,fun d H2 d0 d1 hT2 k2=>?_⟩)
  obtain ⟨S2,f2⟩:=S1.draw hT2 k2
  obtain ⟨g0,g1,g2⟩:=j37 pu0 pu1 d0 d1
  refine ⟨_,_,rfl,rfl,_,rfl,_,_,rfl,rfl,(by show (0:Int) < (p.ns.length:Int); omega),?_⟩
  refine hN _ _ ⟨_,rfl,_,rfl,_,rfl,_,rfl,_,rfl,To,R,30,rfl,S2.tn,by decide,by decide,fun m H3 m0 m1 hT3 k3=>?_⟩
  obtain ⟨S3,f3⟩:=S2.draw hT3 k3
  refine ⟨zs3,fun l nl=>?_⟩
  have s4:=jg (o:=.lst ([0,4,m].map V.int)) nl
  have S4:=S3.same s4
  have u4:Un (upd H3 l (.lst ([0,4,m].map V.int))) ρ l ([0,4,m].map V.int):=⟨ja,S3.w.kr.none nl⟩
  refine jug S4 u4 (by show 0 < 3; decide) (by show 3 ≤ 1000; decide) fun v H5 hv S5 f5=>?_
  have v01 : 0 ≤ v ∧ v ≤ 30:=by
   simp only [List.mem_cons,List.not_mem_nil,or_false] at hv
   rcases hv with rfl | rfl | rfl <;> omega
  have en:(ω.n:Int) = (p.ns.length:Int):=by rw [S.w.n]
  have F5:Fr jqn ρ H ρ H5:=(((fD.trans f1).trans f2).trans f3).trans ((Fr.same s4).trans f5)
  exact ⟨_,_,rfl,rfl,ρ,W,ω,T',p,To,R,S5,hT,fun ρ' H' ω' v S' f'=>k ρ' H' ω' _ S' ((jsd F5).trans f'),.inl ⟨pu,(pu + 1 + d) % (p.ns.length:Int),1 + v,rfl,⟨pu0,by omega⟩,⟨g0,by omega⟩,g2,by omega,by omega⟩⟩
structure Tw (H:Hp) (ρ : Rho) (To R:Addr) : Prop where
 kr:OkR ρ H
 tn:jpy To R H
 tr:jye ρ To R
section
variable {H H':Hp} {ρ : Rho} {To R:Addr}
theorem Tw.same (s:wz H H') (x:Tw H ρ To R) : Tw H' ρ To R:=⟨x.kr.same s,x.tn.same s,x.tr⟩
theorem Tw.draw (x:Tw H ρ To R) (hT:jpy To R H') (k:jp4 To R H H') : Tw H' ρ To R ∧ Fr jqn ρ H ρ H':=⟨⟨jxf x.kr hT k,hT,x.tr⟩,juv x.tr k⟩
end
def j0u (t:Ad) : Sp:=fun vs H Q _=>∃ ρ To R,vs = [.ref To] ∧ Tw H ρ To R ∧
 ∀ ρ' H' W ω pa cr few fo ho be ro p,p.Ok → Sw t H' ρ' W ω 0 0 p To R → Ps H' ρ' pa W.x cr few fo ho be ro p → Q (.ref pa) H'
set_option maxHeartbeats 0 in
theorem jrw (T:Txt K mg t) : yf P w K mg base CX0 8 t.jg6 t.jgy ["_law_town_here"] (j0u t):=by
 refine T.jgp.ok yk (fun vs H Q E h=>?_) (fun cdv A outer s H vs Q E hr h=>?_)
 ·obtain ⟨ρ,To,R,rfl,_⟩:=h
  rfl
 ·obtain ⟨ρ,To,R,rfl,S,k⟩:=h
  refine ⟨_,(@jb _ _ _ _ _ (j8 (i:=1) yk.nd rfl (Or.inl rfl) (jq (qa T) hr.dn rfl T.qh T.qb.kp T.qg .nil jr (@v8 _ _ _ _ _ (pv 0) jn rfl rfl)))
   (@jb _ _ _ _ _ (j8 (i:=2) yk.nd rfl (Or.inl rfl) (xn jer (xn jer (xn jvt jn (pv 1)) jn) (jq (qa T) hr.dn rfl T.qh T.qb.kp T.qg .nil jr (@v8 _ _ _ _ _ (pv 0) jn rfl rfl))))
   (@jb _ _ _ _ _ (j8 (i:=3) yk.nd rfl (Or.inr rfl) (jq (jnj T) hr.dn rfl T.jka T.jff.kp T.jkl .nil jr (@jmy _ _ _ _ _ _ _ (pv 0) (pv 2) (pv 1) rfl rfl rfl)))
   (@jb _ _ _ _ _ (jzc (i:=4) yk.nd rfl rfl (N':=["_law_k","_law_town_here"]) (ix:=[none,some 0]) (gh (by kernel_rfl)) rfl (jex rfl T.jjj (jc (xn jer jn (jq (qa T) hr.dn rfl T.qh T.qb.kp T.qg .nil jr (@v8 _ _ _ _ _ (pv 0) jn rfl rfl))) jf)) (fun _ _ _ _=>(ju (i:=0) j8e rfl (Or.inl rfl) (.inr rfl))) (fun _ _ _ _=>jrl) (fun _ _ _ _=>(jq (zb T) hr.dn rfl T.zi T.qz.kp T.zh .nil jr (@v8 _ _ _ _ _ (pv 1) (@zk _ _ _ _ (@j6b _ _ _ _ _ _ _ _ _ _ _ jn jn jn jn (jq (qa T) hr.dn rfl T.qh T.qb.kp T.qg .nil jr (@v8 _ _ _ _ _ (pv 1) jn rfl rfl)) rfl rfl rfl rfl rfl)) rfl rfl))))
   (@jb _ _ _ _ _ (j8 (i:=5) yk.nd rfl (Or.inl rfl) (jq (jnj T) hr.dn rfl T.jka T.jff.kp T.jkl .nil jr (@jmy _ _ _ _ _ _ _ (pv 0) (jt jz rfl T.jeo boot_len (jc (pv 4) jf)) jn rfl rfl rfl)))
   (@jb _ _ _ _ _ (j8 (i:=6) yk.nd rfl (Or.inl rfl) (jzi T.jvm (jmc T) hr.dn rfl T.jxp T.jdv jr (jc (pv 2) jf) (jdc (pv 1) (jdc (pv 4) (jdc (pv 3) (jdc (pv 5) job))))))
   (@jd _ _ _ (j4 (@jm0 _ _ _ _ _ (@j75 _ _ _ _ _ _ _ _ _ _ _ _ _ _ _ (pv 6) (pv 2) (pv 1) (pv 3) (jd0 (N':=["_law_k","_law_foes"]) (ix:=[none,some 3]) (gh (by kernel_rfl)) rfl (jex rfl T.jjj (jc (pv 2) jf)) (fun _ _ _ _=>(ju (i:=0) j8n rfl (Or.inl rfl) (.inr rfl))) (fun _ _ _ _=>(jl4 (jw (jk9 (K:=K) rfl) (pv 0) (pv 1) (by with_unfolding_all rfl)))) (fun _ _ _ _=>(pv 0))) (pv 4) (pv 5) rfl rfl rfl rfl rfl rfl rfl)))))))))),?_⟩
  refine ⟨_,rfl,To,R,3,rfl,S.tn,by decide,by decide,fun f H1 f0 f1 hT1 k1=>?_⟩
  obtain ⟨S1,r1⟩:=S.draw hT1 k1
  refine ⟨_,rfl,_,_,rfl,rfl,.inl ⟨by decide,by decide⟩,_,_,rfl,rfl,_,rfl,To,R,2,rfl,S1.tn,by decide,by decide,fun d H2 d0 d1 hT2 k2=>?_⟩
  obtain ⟨S2,r2⟩:=S1.draw hT2 k2
  have F2:=r1.trans r2
  obtain ⟨h,eh⟩ : ∃ h:Int,h = 3 * f + 1 + d:=⟨_,rfl⟩
  refine ⟨_,_,rfl,rfl,?_⟩
  dsimp only
  rw [← eh]
  have h1 : 1 ≤ h:=by omega
  have h8:h ≤ 16:=by omega
  have lt : 3 * f < h:=by omega
  refine ⟨_,rfl,_,rfl,_,rfl,To,R,h,f,rfl,S2.tn,by omega,by omega,fun fo ls H3 nfo hT3 k3 hfo upl rgl lnl=>?_⟩
  rw [if_pos f0] at lnl
  obtain ⟨S3,r3⟩:=S2.draw hT3 k3
  have F3:=F2.trans r3
  have U3:Un H3 ρ fo (ls.map V.int):=⟨hfo,S2.kr.none nfo⟩
  show jom 3 (.ref fo) [some (.ref To),some (.int f),some (.int h),none,none,none,none] H3 _
  refine ⟨_,rfl,To,R,3,rfl,S3.tn,by decide,by decide,fun c H4 c0 c1 hT4 k4=>?_⟩
  obtain ⟨S4,r4⟩:=S3.draw hT4 k4
  have U4:=U3.fr r4
  have F4:=F3.trans r4
  refine ⟨_,_,rfl,rfl,2 + c,rfl,by omega,by omega,jvj (lo:=0) (n:=(2 + c).toNat) (fun i ys σ H'=>∃ v zs,σ = [v,some (.ref To)] ∧ ys = (zs:List Int).map V.int ∧ zs.length = i ∧ (∀ z ∈ zs,0 ≤ z ∧ z ≤ 1000) ∧ Tw H' ρ To R ∧ Fr jqn ρ H4 ρ H') ⟨none,[],rfl,rfl,rfl,(fun _ z=>by cases z),S4,Fr.refl⟩ ?_ ?_ ?_⟩
  ·rintro i ys σ H' hi ⟨v,zs,rfl,rfl,lz,_⟩
   rw [List.length_map]
   exact j5l (by omega)
  ·rintro i ys σ H' hi ⟨v,zs,rfl,rfl,lz,rz,S5,r5⟩
   dsimp only [jom,j39]
   rw [if_pos rfl]
   refine ⟨_,rfl,_,rfl,To,R,40,rfl,S5.tn,by decide,by decide,fun m H6 m0 m1 hT6 k6=>?_⟩
   obtain ⟨S6,r6⟩:=S5.draw hT6 k6
   refine ⟨zs5,fun l nl=>?_⟩
   have s7:=jg (o:=.lst ([0,5,20,1000,m].map V.int)) nl
   have S7:=S6.same s7
   obtain ⟨n1,n2⟩:=S6.tn.fresh nl
   refine ⟨To,R,l,[0,5,20,1000,m].map V.int,rfl,S7.tn,ja,n1,n2,by show 0 < 5; decide,by show 5 ≤ 1000000; decide,fun j x H8 ex hT8 k8=>?_⟩
   obtain ⟨S8,r8⟩:=S7.draw hT8 k8
   obtain ⟨z,hz,rfl⟩:=int_at ex
   refine ⟨_,zs ++ [z],rfl,by rw [List.map_append]; rfl,by rw [List.length_append,lz]; rfl,fun y hy=>?_,S8,(r5.trans r6).trans ((Fr.same s7).trans r8)⟩
   rcases List.mem_append.mp hy with hy | hy
   ·exact rz y hy
   ·rw [List.mem_singleton.mp hy]
    simp only [List.mem_cons,List.not_mem_nil,or_false] at hz
    rcases hz with rfl | rfl | rfl | rfl | rfl <;> omega
  rintro ys σ H5 ⟨v,ns,rfl,rfl,lz,rz,S5,r5⟩ be nbe
  have s6:=jg (o:=.lst (ns.map V.int)) nbe
  have S6:=S5.same s6
  have Ube:Un (upd H5 be (.lst (ns.map V.int))) ρ be (ns.map V.int):=⟨ja,S5.kr.none nbe⟩
  have Ufo:Un (upd H5 be (.lst (ns.map V.int))) ρ fo (ls.map V.int):=(U4.fr r5).fr (P:=fun _=>False) (Fr.same s6)
  have F6:Fr jqn ρ H ρ (upd H5 be (.lst (ns.map V.int))):=(F4.trans r5).trans (Fr.same s6)
  generalize upd H5 be (.lst (ns.map V.int)) = H6 at S6 Ube Ufo F6
  show jom 4 (.ref be) [some (.ref To),some (.int f),some (.int h),some (.ref fo),none,none,none] H6 _
  refine ⟨_,rfl,_,rfl,be,_,rfl,.inl (SqL.of Ube.1),?_⟩
  rw [List.length_map]
  refine ⟨To,R,(ns.length:Int),2,rfl,S6.tn,by omega,by omega,fun ro cs H7 nro hT7 k7 hro upc rgc lnc=>?_⟩
  rw [if_pos (by decide)] at lnc
  obtain ⟨S7,r7⟩:=S6.draw hT7 k7
  have Uro:Un H7 ρ ro (cs.map V.int):=⟨hro,S6.kr.none nro⟩
  have Ube7:=Ube.fr r7
  have Ufo7:=Ufo.fr r7
  have F7:=F6.trans r7
  show jom 5 (.ref ro) [some (.ref To),some (.int f),some (.int h),some (.ref fo),some (.ref be),none,none] H7 _
  refine ⟨_,rfl,_,rfl,_,rfl,_,rfl,_,rfl,fun x dx nx ndx ne=>?_⟩
  obtain ⟨fm,krm⟩:=j2h (C:=t.jy) nx ndx ne (r:=(0,.x)) S7.kr
  have Ube8:=Ube7.fr fm
  have Ufo8:=Ufo7.fr fm
  have Uro8:=Uro.fr fm
  have ln:ns.length = (2 + c).toNat:=lz
  refine ⟨jaz ρ x (0,.x),0,x,dx,h,f,be,ns,fo,ro,cs,ls,rfl,ja,zm,krm,⟨h1,h8⟩,⟨f0,by omega⟩,lt,Ube8.1,(fun r hr=>by rw [Ube8.2] at hr; cases hr),by omega,by omega,rz,.inl ⟨Ufo8.1,fun r hr=>by rw [Ufo8.2] at hr; cases hr⟩,upl,rgl,lnl,.inl ⟨Uro8.1,fun r hr=>by rw [Uro8.2] at hr; cases hr⟩,upc,rgc,fun ρ' H8 W ex etot O ly f8 kr8=>⟨rfl,?_⟩⟩
  have gn:=j6a (cs:=cs) ⟨h1,h8⟩ f0 lt (by omega:ns.length ≤ 8) (fun x hx=>(rz x hx).1) lnl rgl upl
  have ek:(w0 h f ns cs ls).ks.map (·.1) = jbx ls h.toNat:=by
   show ((jbx ls h.toNat).map fun i=>(i,kp0 ns)).map (·.1) = _
   rw [List.map_map]
   exact List.map_id _
  have lk:(jbx ls h.toNat).length = (w0 h f ns cs ls).ks.length:=by rw [← ek,List.length_map]
  have k0:=gn.ok.k0
  have k1:=gn.ok.k1
  obtain ⟨tn8,tr8⟩:=jys f8 (fun z=>by cases z) (fun z=>by cases z) (S7.tn.same (fun b u e=>(fm b u e (fun _ _ z=>z)).1)) ⟨by rw [xl (S7.tn.fresh nx).1.symm]; exact S7.tr.1,by rw [xl (S7.tn.fresh nx).2.symm]; exact S7.tr.2⟩
  have S8:Sw t H8 ρ' W (w0 h f ns cs ls) 0 0 ⟨ns,cs,ls,jbx ls h.toNat⟩ To R:=⟨⟨O,kr8,ly,⟨[],gn⟩,rfl,rfl,ek,etot⟩,tn8,tr8⟩
  have Ube9:=Ube8.fr f8
  have Ufo9:=Ufo8.fr f8
  have Uro9:=Uro8.fr f8
  show jom 6 (V.ref x) [some (.ref To),some (.int f),some (.int h),some (.ref fo),some (.ref be),some (.ref ro),none] H8 _
  refine ⟨_,rfl,_,rfl,_,rfl,_,rfl,_,rfl,h,rfl,by omega,by omega,jvj (lo:=0) (n:=h.toNat) (fun i ys σ H'=>∃ v,σ = [v,some (.ref fo)] ∧ H' = H8 ∧ ys = (jbx ls i).map V.int) ⟨none,rfl,rfl,rfl⟩ ?_ ?_ ?_⟩
  ·rintro i ys σ H' hi ⟨v,rfl,rfl,rfl⟩
   rw [List.length_map]
   have:=jq6 ls i
   exact j5l (by omega)
  ·rintro i ys σ H' hi ⟨v,rfl,rfl,rfl⟩
   have e0:(0:Int) + (i:Int) = i:=Int.zero_add _
   rw [e0]
   refine ⟨_,rfl,_,rfl,fo,_,rfl,.inl (SqL.of Ufo9.1),rfl,jda _,_,rfl,?_⟩
   rw [if_pos rfl,ur]
   by_cases z:(i:Int) ∈ ls
   ·rw [decide_eq_true z]
    refine pq ⟨_,rfl,rfl,?_⟩
    rw [jk4,if_pos z,List.append_nil]
   ·rw [decide_eq_false z]
    refine jno ⟨_,rfl,_,rfl,rfl,?_⟩
    rw [jk4,if_neg z,List.map_append]
    rfl
  rintro ys σ H9 ⟨v,rfl,rfl,rfl⟩ ho nho
  have s10:=jg (o:=.lst ((jbx ls h.toNat).map V.int)) nho
  refine ⟨_,rfl,_,rfl,zs7,fun pa npa=>?_⟩
  have s11:=jg (o:=.tup [.ref x,.int h,.int f,.ref fo,.ref ho,.ref be,.ref ro]) npa
  have fs:Fr (fun _=>False) ρ' H9 ρ' _:=Fr.same (s10.trans s11)
  have S11:=(S8.same s10).same s11
  refine k ρ' _ W _ pa h f fo ho be ro _ ⟨by show 2 ≤ ns.length; omega,by show ns.length ≤ 8; omega,rgc,by show cs.length ≤ 1000; omega,by show ls.length ≤ 5; omega,by show 0 < (jbx ls h.toNat).length; omega,by show (jbx ls h.toNat).length ≤ 16; omega⟩ S11 ⟨⟨?_,(S8.same s10).w.kr.none npa⟩,Ufo9.fr fs,⟨s11 _ _ ja,S8.w.kr.none nho⟩,Ube9.fr fs,Uro9.fr fs⟩
  rw [ex]
  exact ja
theorem jlq (T:Txt K mg t) : yf P w K mg base CX0 1 t.jbt t.jbl ["self"] (fun vs H Q _=>∃ ρ id W ω,vs = [.ref W.x] ∧ qo t H ρ id W ω ∧ Q (.bl (decide (ω.way = []))) H):=by
 refine T.jf8.ok jl9 (fun vs H Q E h=>?_) (fun cdv A outer s H vs Q E hr h=>?_)
 ·obtain ⟨ρ,id,W,ω,rfl,_⟩:=h
  rfl
 ·obtain ⟨ρ,id,W,ω,rfl,O,k⟩:=h
  refine ⟨_,(@jd _ _ _ (j4 (j15 (j9 (pv 0) rfl)))),?_⟩
  obtain ⟨rw_,xs,hw,pw⟩:=O.wy
  refine ⟨_,rfl,W.x,_,W.dx,_,_,rfl,O.ob.1,T.ji,T.qq,jak,_,.inl ⟨xs,SqL.of hw,rfl⟩,?_⟩
  have e : ∀ {ys:List _},Paired (jmu H ρ) xs ys → (! !xs.isEmpty) = decide (ys = []):=fun q=>by
   cases q with
   | nil=>rfl
   | cons _ _=>simp
  rw [e pw]
  exact k
theorem Sw.up {t:Ad} {H:Hp} {ρ : Rho} {W:WA} {ω : Wd} {T F F2:Nat} {p:Pt} {To R:Addr} (hF:F ≤ F2) (x:Sw t H ρ W ω T F p To R) : Sw t H ρ W ω T F2 p To R:=⟨⟨x.w.o,x.w.kr,x.w.ly,let ⟨L,g⟩:=x.w.g; ⟨L,g.mono (Nat.le_refl _) hF⟩,x.w.n,x.w.c,x.w.h,x.w.tot⟩,x.tn,x.tr⟩
def jwp (t:Ad) : Sp:=fun vs H Q _=>∃ ρ W ω T p To R,vs = [.ref To,.ref W.x] ∧ Sw t H ρ W ω T (40 * T) p To R ∧ p.ls.length ≤ 5 ∧ T ≤ 36 ∧
 ∀ ρ' H' ω',Sw t H' ρ' W ω' T (40 * T) p To R → Fr jy9 ρ H ρ' H' → (∀ A,jq5 A ω → jq5 A ω') → ω'.way = [] → Q (.bl true) H'
set_option maxHeartbeats 0 in
theorem jnn (T:Txt K mg t) : yf P w K mg base CX0 10 t.jck t.jdg ["_law_town_here","_law_world_here"] (jwp t):=by
 refine T.jc1.ok jgj (fun vs H Q E h=>?_) (fun cdv A outer s H vs Q E hr h=>?_)
 ·obtain ⟨ρ,W,ω,T',p,To,R,rfl,_⟩:=h
  rfl
 ·obtain ⟨ρ,W,ω,T',p,To,R,rfl,S,l5,hT,k⟩:=h
  refine ⟨_,(@jb _ _ _ _ _ (jg7 PassesOwn.never rfl (jex rfl T.jjj (jc jn jf)) (ju (i:=2) jgj.nd rfl (Or.inl rfl)) (@jd _ _ _ (zo (jw jx6 (jq (ji8 T) hr.dn rfl T.jfb T.jb7.kp T.jfo .nil jr (@v8 _ _ _ _ _ (pv 0) (pv 1) rfl rfl)) ji4 (qf _)) (@jd _ _ _ (j4 (jeh j4j (gr (pv 1) T.ji T.jev (jlq T) hr.dn T.jgb .nil jr) jkd (qf _)))) qc)))
   (@jd _ _ _ (j4 jkd))),?_⟩
  refine ⟨1500,rfl,by decide,by decide,jpg (lo:=0) (n:=1500) (fun i σ H'=>∃ v ρ' ω' F,σ = [some (.ref To),some (.ref W.x),v] ∧ Sw t H' ρ' W ω' T' F p To R ∧ F + i ≤ 40 * T' ∧ Fr jy9 ρ H ρ' H' ∧ ∀ A,jq5 A ω → jq5 A ω') ⟨none,ρ,ω,_,rfl,S,by omega,Fr.refl,fun _ h=>h⟩ ?_ ?_⟩
  ·rintro i σ H1 hi ⟨v,ρ1,ω1,F,rfl,S1,hF,f1,kd⟩
   refine ⟨_,rfl,_,rfl,ρ1,W,ω1,T',F,p,To,R,rfl,S1,l5,by omega,by omega,fun ew H2 S2 f2=>?_,fun F0 ρ2 H2 ω2 a S2 f2 kd2=>?_⟩
   ·refine ⟨rfl,_,rfl,jno ?_⟩
    refine ⟨_,rfl,W.x,W.dx,_,rfl,S2.w.o.ob.1,qv,ρ1,0,W,ω1,rfl,S2.w.o,_,_,rfl,rfl,?_⟩
    rw [decide_eq_true ew]
    exact k ρ1 H2 ω1 (S2.up (by omega)) (f1.trans f2) kd ew
   ·exact ⟨rfl,_,rfl,pq ⟨_,ρ2,ω2,F - 1,rfl,S2,by omega,f1.trans f2,fun A h=>kd2 A (kd A h)⟩⟩
  ·rintro σ H1 ⟨v,ρ1,ω1,F,rfl,S1,hF,f1,kd⟩
   omega
theorem KX.len {L:List O} {C:O → Bool} {n:Nat} {ns:List Int} {κ : Kp} (k:KX L C n ns κ) {p:Int} (h0 : 0 ≤ p) (h1:p < (n:Int)) : ((ofP p κ.done).length:Int) = gI κ.ph p:=by
 obtain ⟨g0,eg⟩:=k.nm p h0 h1
 have:=congrArg List.length eg
 rw [List.length_map] at this
 rw [this]
 unfold upTo
 rw [List.length_map,List.length_range]
 omega
section
variable {ω : Wd} {T F:Nat} {L:List O} {ls ns:List Int}
theorem Gz.due (g:Gz ω T F L ls ns) {c:Int × Kp} (hc:c ∈ ω.ks) {o:O} (ho:o ∈ c.2.wait) : ¬ (o.n = ((ofP o.p c.2.done).length:Int) ∧ o.m ≤ gI c.2.held o.p):=fun ⟨e1,e2⟩=>by
 obtain ⟨kx,kz,ca⟩:=g.ks c hc
 obtain ⟨p0,p1,_⟩:=zy.mp (g.lo o (kz.wl o ho))
 have d:=ca o ho
 unfold Kp.due at d
 rw [kx.len p0 (by omega)] at e1
 rw [decide_eq_true e1,decide_eq_true e2] at d
 cases d
theorem Gz.all (g:Gz ω T F L ls ns) (st : ω.way = []) {c:Int × Kp} (hc:c ∈ ω.ks) {o:O} (h : ω.carried o = true) : o ∈ c.2.done ∨ o ∈ c.2.wait:=by
 rcases g.pp c hc o h with q | q
 ·rw [st] at q; cases q
 ·exact q
theorem Gz.sub (g:Gz ω T F L ls ns) (st : ω.way = []) {c d:Int × Kp} (hc:c ∈ ω.ks) (hd:d ∈ ω.ks) : ∀ o ∈ c.2.done,o ∈ d.2.done:=by
 obtain ⟨kx,kz,_⟩:=g.ks c hc
 obtain ⟨dx,dz,_⟩:=g.ks d hd
 exact j7t (C:=fun o=>ω.carried o = true) g.nl (fun o o' h h'=>g.un h h') dz.hi (fun o ho=>(dx.dl o ho).2) (fun o h=>g.all st hd h) dx.wd (fun o ho=>by rw [← dx.he]; exact g.due hd ho) kz.hi fun o ho=>(kx.dl o ho).2
theorem Gz.same (g:Gz ω T F L ls ns) (st : ω.way = []) {c d:Int × Kp} (hc:c ∈ ω.ks) (hd:d ∈ ω.ks) : c.2.done.Perm d.2.done ∧ c.2.wait.Perm d.2.wait ∧ c.2.held = d.2.held:=by
 obtain ⟨kx,kz,_⟩:=g.ks c hc
 obtain ⟨dx,dz,_⟩:=g.ks d hd
 have s1:=g.sub st hc hd
 have s2:=g.sub st hd hc
 have wsub : ∀ {c d:Int × Kp},c ∈ ω.ks → d ∈ ω.ks → ∀ o ∈ c.2.wait,o ∈ d.2.wait:=fun {c d} hc hd o ho=>by
  rcases g.all st hd ((g.ks c hc).1.wc o ho) with q | q
  ·exact absurd (g.sub st hd hc o q) ((g.ks c hc).1.wd o ho)
  ·exact q
 have pm:=joq kz.hi.nd dz.hi.nd fun o=>⟨s1 o,s2 o⟩
 refine ⟨pm,joq (g.ok.ks c hc).nd (g.ok.ks d hd).nd fun o=>⟨wsub hc hd o,wsub hd hc o⟩,?_⟩
 have l1:=(g.ok.ks c hc).h
 have l2:=(g.ok.ks d hd).h
 refine List.ext_getElem (by omega) fun i h1 h2=>?_
 have e:gI c.2.held (i:Int) = gI d.2.held (i:Int):=by
  rw [kx.he,dx.he,jlj (by omega) g.nl kz.hi.ord,jlj (by omega) g.nl dz.hi.ord]
  have a:inP (i:Int) c.2.done = inP (i:Int) d.2.done:=jra ((pm.filter _).map _)
  have b:j1o (i:Int) c.2.done = j1o (i:Int) d.2.done:=jra ((pm.filter _).map _)
  rw [a,b]
 have q1:=jwc (xs:=c.2.held) (i:=(i:Int)) (by omega) (by omega)
 have q2:=jwc (xs:=d.2.held) (i:=(i:Int)) (by omega) (by omega)
 rw [Int.toNat_natCast,List.getElem?_eq_getElem h1] at q1
 rw [Int.toNat_natCast,List.getElem?_eq_getElem h2] at q2
 rw [Option.some.inj q1,Option.some.inj q2,e]
end
theorem jqy {a b c:List (List Int)} (h1:a.Perm c) (h2:a.Pairwise fun x y=>HT.lexLt x y = true) (h3:b.Perm c) (h4:b.Pairwise fun x y=>HT.lexLt x y = true) : a = b:=
 List.Perm.eq_of_pairwise (fun x y _ _ p q=>by rw [jua p] at q; cases q) h2 h4 (h1.trans h3.symm)
mutual
theorem jn1 : ∀ d:Dt,eqD d d = true
 | .non=>by simp [eqD]
 | .bl _=>by simp [eqD]
 | .int _=>by simp [eqD]
 | .str _=>by simp [eqD]
 | .tup ds=>by rw [eqD]; exact jpl ds
 | .lst ds=>by rw [eqD]; exact jpl ds
theorem jpl : ∀ ds:List Dt,jo5 ds ds = true
 | []=>by rw [jo5]
 | d :: ds=>by rw [jo5,jn1 d,jpl ds]; rfl
end
abbrev lsg (a To pa x:Addr) (cr few:Int) (fo ho be ro:Addr) (sh:Int) (l:List (Option V)) : St:=[some (.ref a),some (.ref To),some (.ref pa),some (.ref x),some (.int cr),some (.int few),some (.ref fo),some (.ref ho),some (.ref be),some (.ref ro),some (.int sh)] ++ l
theorem Ps.same {ρ : Rho} {H H':Hp} {pa x fo ho be ro:Addr} {jbx few:Int} {p:Pt} (s:wz H H') (h:Ps H ρ pa x jbx few fo ho be ro p) : Ps H' ρ pa x jbx few fo ho be ro p:=h.fr (P:=fun _=>False) (Fr.same s)
def jyr (K:W.Frag) : Sp:=fun vs H Q _=>∃ (a:Addr) (ns:List Int),vs = [.ref a] ∧ SqL K H a (ns.map V.int) ∧ ns.length ≤ 63 ∧ ∀ H',Q (.bl true) H'
set_option maxHeartbeats 0 in
theorem j4t (T:Txt K mg t) : yf P w K mg base CX0 12 t.j3a t.j2j ["_law_script"] (jyr K):=by
 refine (T.j4e.ok (k:=11) y8 (fun vs H Q E h=>?_) (fun cdv A outer s H vs Q E hr h=>?_))
 ·obtain ⟨a,ns,rfl,_⟩:=h
  rfl
 ·obtain ⟨a,ns,rfl,hS,hn,k⟩:=h
  refine ⟨_,(@jb _ _ _ _ _ (j8 (i:=1) y8.nd rfl (Or.inl rfl) (jq (jtw T) hr.dn rfl T.jo2 T.jkm.kp T.joo .nil jr (jc (pv 0) jf)))
   (@jb _ _ _ _ _ (j8 (i:=2) y8.nd rfl (Or.inl rfl) (jq (jrw T) hr.dn rfl T.jnb T.jgp.kp T.jmv .nil jr (jc (pv 1) jf)))
   (@jb _ _ _ _ _ (jm8 (pv 2) (jpc rfl (j7 (ju (i:=3) y8.nd rfl (Or.inl rfl)) (j7 (ju (i:=4) y8.nd rfl (Or.inl rfl)) (j7 (ju (i:=5) y8.nd rfl (Or.inl rfl)) (j7 (ju (i:=6) y8.nd rfl (Or.inl rfl)) (j7 (ju (i:=7) y8.nd rfl (Or.inl rfl)) (j7 (ju (i:=8) y8.nd rfl (Or.inl rfl)) (j7 (ju (i:=9) y8.nd rfl (Or.inl rfl)) jj6)))))))))
   (@jb _ _ _ _ _ (j8 (i:=10) y8.nd rfl (Or.inl rfl) (jq (zb T) hr.dn rfl T.zi T.qz.kp T.zh .nil jr (@v8 _ _ _ _ _ (pv 1) (@zk _ _ _ _ (@jmy _ _ _ _ _ _ _ jn jn jn rfl rfl rfl)) rfl rfl)))
   (@jb _ _ _ _ _ (jg7 PassesOwn.never rfl (jex rfl T.jjj (jc jn jf)) (ju (i:=11) y8.nd rfl (Or.inl rfl)) (@jd _ _ _ (qe (jq (jv4 T) hr.dn rfl T.jte T.joz.kp T.jtc .nil jr (@jmy _ _ _ _ _ _ _ (pv 1) (pv 2) (pv 10) rfl rfl rfl)))))
   (@jb _ _ _ _ _ (@j8 _ _ 12 _ _ _ _ y8.nd rfl (Or.inl rfl) (@zk _ _ _ _ jf) (by rfl) (by first | exact .inl rfl | exact .inr rfl))
   (@jb _ _ _ _ _ (jg7 PassesOwn.never rfl (@jbh _ _ _ _ (pv 7)) (ju (i:=13) y8.nd rfl (Or.inl rfl)) (@jd _ _ _ (j8 (i:=12) y8.nd rfl (Or.inl rfl) (xn jvk (pv 12) (j6 (pv 3) T.ji T.gw (jbs T) hr.dn T.uw .nil jr (jc (pv 13) jf))))))
   (@jb _ _ _ _ _ (zo (yi (xb (jq (jnn T) hr.dn rfl T.jhf T.jc1.kp T.jg4 .nil jr (@v8 _ _ _ _ _ (pv 1) (pv 3) rfl rfl)))) (@jd _ _ _ (j4 jkd)) qc)
   (@jb _ _ _ _ _ (j8 (i:=14) y8.nd rfl (Or.inl rfl) (jai gc (pv 7) jn (fun _ _=>rfl)))
   (@jb _ _ _ _ _ (j8 (i:=15) y8.nd rfl (Or.inr rfl) (jt jb8 rfl T.jk8 boot_sorted (jc (j6 (pv 3) T.ji T.gw (jbs T) hr.dn T.uw .nil jr (jc (pv 14) jf)) jf)))
   (@jb _ _ _ _ _ (jg7 PassesOwn.never rfl (@jbh _ _ _ _ (pv 7)) (ju (i:=13) y8.nd rfl (Or.inl rfl)) (@jb _ _ _ _ _ (zo (PW.pt (jko (jw (jkr hr.units) (jt jb8 rfl T.jk8 boot_sorted (jc (j6 (pv 3) T.ji T.gw (jbs T) hr.dn T.uw .nil jr (jc (pv 13) jf)) jf)) (pv 15) (qf _)) (je7 (jw (jkr hr.units) (j6 (pv 3) T.ji T.jcb (je8 T) hr.dn T.jdx .nil jr (jc (pv 13) jf)) (j6 (pv 3) T.ji T.jcb (je8 T) hr.dn T.jdx .nil jr (jc (pv 14) jf)) (qf _))))) (@jd _ _ _ (j4 jkd)) qc)
   (@jb _ _ _ _ _ (zo (jw (jkr hr.units) (j6 (pv 3) T.ji T.jat (jef T) hr.dn T.jcc .nil jr (jc (pv 13) jf)) (j6 (pv 3) T.ji T.jat (jef T) hr.dn T.jcc .nil jr (jc (pv 14) jf)) (qf _)) (@jd _ _ _ (j4 jkd)) qc)
   (@jd _ _ _ (jg7 PassesOwn.never rfl (@jbh _ _ _ _ (j6 (pv 3) T.ji T.jat (jef T) hr.dn T.jcc .nil jr (jc (pv 13) jf))) (jpc rfl (j7 (ju (i:=16) y8.nd rfl (Or.inr rfl)) (j7 (ju (i:=17) y8.nd rfl (Or.inl rfl)) (j7 (ju (i:=18) y8.nd rfl (Or.inl rfl)) (j7 (ju (i:=19) y8.nd rfl (Or.inl rfl)) jj6))))) (@jb _ _ _ _ _ (j8 (i:=20) y8.nd rfl (Or.inl rfl) (jt jz rfl T.jeo boot_len (jc (jd0 (N':=["_law_order_here","_law_purse"]) (ix:=[none,some 16]) (gh (by kernel_rfl)) rfl (@jbh _ _ _ _ (pv 15)) (fun _ _ _ _=>(ju (i:=0) j8k rfl (Or.inl rfl) (.inr rfl))) (fun _ _ _ _=>(jl4 (jw jin (jai (jxn (K:=K) rfl) (pv 0) jn (fun _ _=>rfl)) (pv 1) (qf _)))) (fun _ _ _ _=>(pv 0))) jf)))
   (@jd _ _ _ (zo (PW.pt (jiy (jw jin (pv 17) (pv 20) (qf _)) (jfr (jw jx0 (pv 19) (jai gc (j6 (pv 3) T.ji T.jcb (je8 T) hr.dn T.jdx .nil jr (jc (pv 13) jf)) (pv 16) (fun _ _=>rfl)) (qf _))))) (@jd _ _ _ (j4 jkd)) qc))))))))
   (@jd _ _ _ (j4 (jeh (j49 hr.units) (jd0 (N':=["_law_order_here","_law_done"]) (ix:=[none,some 15]) (gh (by kernel_rfl)) rfl (@jbh _ _ _ _ (pv 12)) (fun _ _ _ _=>(ju (i:=0) j74 rfl (Or.inl rfl) (.inr rfl))) (fun _ _ _ _=>(jl4 (jw (jwh (K:=K) rfl hr.units) (pv 0) (pv 1) (by with_unfolding_all rfl)))) (fun _ _ _ _=>(pv 0))) (@zk _ _ _ _ jf) (qf _))))))))))))))),?_⟩
  refine jkx fun N hN=>⟨_,rfl,a,ns,rfl,hS,fun To R H1 nT nR s1 hT=>?_⟩
  have hTR:To ≠ R:=hT.ne
  obtain ⟨ρ0,hρ0⟩ : ∃ ρ0:Rho,ρ0 = jaz (jaz (fun _=>none) R (9,.own 1)) To (9,.own 0):=⟨_,rfl⟩
  have S0:Tw H1 ρ0 To R:=by
   obtain ⟨row,c,t1,t2,t3⟩:=hT
   refine ⟨?_,⟨row,c,t1,t2,t3⟩,?_⟩
   ·rw [hρ0]
    exact OkR.jaz (OkR.jaz (fun _ _ z=>by cases z) t2 True.intro) t1 True.intro
   ·rw [hρ0]
    exact ⟨zm,by rw [xl hTR.symm,zm]⟩
  refine hN _ _ (jkx fun N hN=>⟨_,rfl,ρ0,To,R,rfl,S0,fun ρ1 H2 W ω0 pa cr few fo ho be ro p ok S1 B1=>?_⟩)
  refine hN _ _ (jkx fun N hN=>⟨_,rfl,pa,_,rfl,SqT.of B1.tp.1,rfl,_,_,rfl,_,_,rfl,_,_,rfl,_,_,rfl,_,_,rfl,_,_,rfl,_,_,rfl,rfl,?_⟩)
  refine hN (lsg a To pa W.x cr few fo ho be ro 0 [] |>.take 10 |>.append (List.replicate 11 none)) _ (jkx fun N hN=>⟨_,rfl,zs3,fun l nl=>?_⟩)
  have s2:=jg (o:=.lst ([3,5,7].map V.int)) nl
  have S2:=S1.same s2
  have B2:=B1.same s2
  have u2:Un (upd H2 l (.lst ([3,5,7].map V.int))) ρ1 l ([3,5,7].map V.int):=⟨ja,S1.w.kr.none nl⟩
  refine jug S2 u2 (by show 0 < 3; decide) (by show 3 ≤ 1000; decide) fun sh H3 _ S3 f3=>?_
  have B3:=B2.fr f3
  have l2:=ok.l2
  have l8:=ok.l8
  have h16:=ok.h1
  refine hN (lsg a To pa W.x cr few fo ho be ro sh [none,none,none,none,none,none,none,none,none,none]) _ (jkx fun N hN=>⟨36,rfl,by decide,by decide,jpg (lo:=0) (n:=36) (fun i σ H'=>∃ ρ ω v1,σ = lsg a To pa W.x cr few fo ho be ro sh [v1,none,none,none,none,none,none,none,none,none] ∧ Sw t H' ρ W ω i (40 * i) p To R ∧ Ps H' ρ pa W.x cr few fo ho be ro p) ⟨ρ1,ω0,none,rfl,S3,B3⟩ ?_ ?_⟩)
  ·rintro i σ H4 hi ⟨ρ2,ω1,v1,rfl,S4,B4⟩
   exact ⟨_,rfl,_,rfl,_,rfl,ρ2,W,ω1,i,p,To,R,pa,cr,few,fo,ho,be,ro,sh,rfl,S4,B4,ok,by omega,fun ρ3 H5 ω v S5 f5=>⟨ρ3,ω,_,rfl,S5,B4.fr f5⟩⟩
  rintro σ H4 ⟨ρ2,ω1,v1,rfl,S4,B4⟩
  refine hN _ _ (jkx fun N hN=>⟨zs0,fun ah nah=>?_⟩)
  obtain ⟨L1,g1⟩:=S4.w.g
  have z0:=g1.l
  have s5:=jg (o:=.lst []) nah
  have S5:=S4.same s5
  have B5:=B4.same s5
  have A5:Un (upd H4 ah (.lst [])) ρ2 ah []:=⟨ja,S4.w.kr.none nah⟩
  generalize upd H4 ah (.lst []) = H5 at S5 B5 A5
  refine hN (lsg a To pa W.x cr few fo ho be ro sh [v1,some (.ref ah),none,none,none,none,none,none,none,none]) _ (jkx fun N hN=>⟨_,rfl,ho,rfl,⟨_,SqL.of B5.ho.1⟩,jfy (K:=K) (a:=ho) (xs:=p.hs.map V.int) (fun j σ H'=>∃ w3 al vs os,σ = lsg a To pa W.x cr few fo ho be ro sh [v1,some (.ref al),w3,none,none,none,none,none,none,none] ∧ wz H5 H' ∧ Un H' ρ2 al vs ∧ Paired (zj H' ρ2) vs os ∧ jq5 os ω1 ∧ vs.length ≤ 100 * j) ⟨none,ah,[],[],rfl,wz.refl _,A5,.nil,(fun _ z=>by cases z),Nat.le_refl _⟩ (fun j σ H' _ ⟨_,_,_,_,_,sm,_⟩=>SqL.of (sm _ _ B5.ho.1)) ?_ ?_⟩)
  ·rintro j y σ H6 ey ⟨w3,al,vs,os,rfl,sm,ua,pv,kd,lv⟩
   have lj:=(List.getElem?_eq_some_iff.mp ey).1
   rw [List.length_map] at lj
   obtain ⟨h,hh,rfl⟩:=int_at ey
   have S6:=S5.same sm
   obtain ⟨κ,ek,km⟩:=jj1 (by rw [S5.w.h]; exact hh:h ∈ ω1.ks.map (·.1))
   have dw : κ.done.length + κ.wait.length ≤ L1.length:=(g1.ksz km).dw
   refine ⟨_,rfl,_,rfl,W.x,W.dx,_,rfl,S6.w.o.ob.1,qv,_,rfl,ρ2,0,W,ω1,h,κ,rfl,S6.w.o,ek,by omega,fun r xs nr px=>?_⟩
   have s7:=jg (o:=.lst xs) nr
   have lx:xs.length = κ.done.length:=Paired.length px
   refine ⟨al,r,vs,xs,rfl,rfl,s7 _ _ ua.1,ja,j5l (by omega),fun q nq=>?_⟩
   have s8:=s7.trans (jg (o:=.lst (vs ++ xs)) nq)
   refine ⟨_,q,vs ++ xs,os ++ κ.done,rfl,sm.trans s8,⟨ja,(S6.same s7).w.kr.none nq⟩,jmd (Paired.pz pv fun _ _=>zj.fr (P:=fun _=>False) (Fr.same s8)) (Paired.pz px fun _ _=>zj.fr (P:=fun _=>False) (Fr.same s8)),fun o ho=>?_,by rw [List.length_append]; omega⟩
   rcases List.mem_append.mp ho with h | h
   ·exact kd o h
   ·exact ⟨_,km,h⟩
  rintro σ H6 ⟨w3,al,vs,os,rfl,sm,ua,pv,kd,lv⟩
  have S6:=S5.same sm
  have B6:=B5.same sm
  refine hN _ _ (jkx fun N hN=>⟨_,rfl,_,rfl,ρ2,W,ω1,36,p,To,R,rfl,S6,ok.ll,by decide,fun ρ H7 ω S7 f7 kd7 st=>?_⟩)
  refine ⟨_,rfl,pq ?_⟩
  have B7:=B6.fr f7
  have ua7:=ua.fr f7
  have pv7:Paired (zj H7 ρ) vs os:=Paired.pz pv fun _ _=>zj.fr f7
  have kd8:=kd7 _ kd
  obtain ⟨L,g⟩:=S7.w.g
  have z7:=g.l
  obtain ⟨h0,eh0⟩ : ∃ h0,p.hs[0]? = some h0:=⟨_,List.getElem?_eq_getElem ok.h0⟩
  have hk : ∀ {h:Int},h ∈ p.hs → ∃ κ,ω.keep h = some κ ∧ (h,κ) ∈ ω.ks:=fun hh=>jj1 (by rw [S7.w.h]; exact hh)
  obtain ⟨κ0,ek0,km0⟩:=hk (List.mem_of_getElem? eh0)
  have dw0 : κ0.done.length + κ0.wait.length ≤ L.length:=(g.ksz km0).dw
  have at0:atI (p.hs.map V.int) 0 = some (.int h0):=jhn (Int.le_refl _) (by show (p.hs.map V.int)[0]? = _; rw [List.getElem?_map,eh0]; rfl)
  refine hN _ _ (jkx fun N hN=>⟨_,rfl,ho,_,0,.int h0,rfl,rfl,SqL.of B7.ho.1,at0,?_⟩)
  have tne : ∀ {os:List O},∀ t ∈ os.map vu,t ≠ []:=fun t ht z=>by
   obtain ⟨o,_,rfl⟩:=List.mem_map.mp ht
   cases z
  have tnd : ∀ {os:List O},os.Nodup → (os.map vu).Nodup:=fun h=>List.Pairwise.map _ (fun a b hab z=>hab (jie z)) h
  refine hN (lsg a To pa W.x cr few fo ho be ro sh [v1,some (.ref al),w3,some (.int h0),none,none,none,none,none,none]) _ (jkx fun N hN=>⟨_,rfl,W.x,W.dx,_,rfl,S7.w.o.ob.1,qv,_,rfl,ρ,0,W,ω,h0,κ0,rfl,S7.w.o,ek0,by omega,fun r0 xs0 nr0 px0=>?_⟩)
  have s8:=jg (o:=.lst xs0) nr0
  refine ⟨r0,xs0,κ0.done.map vu,rfl,SqL.of ja,va s8 (jfl px0),by rw [Paired.length px0]; omega,tnd (g.ks _ km0).2.1.hi.nd,tne,fun dn vd td ix ndn _ _ _ _ pd qd rd=>?_⟩
  have s9:=jg (o:=.lst vd) ndn
  have S9:=(S7.same s8).same s9
  have B9:=(B7.same s8).same s9
  have ua9:=ua7.fr (P:=fun _=>False) (Fr.same (s8.trans s9))
  have pv9:Paired (zj (upd (upd H7 r0 (.lst xs0)) dn (.lst vd)) ρ) vs os:=Paired.pz pv7 fun _ _=>zj.fr (P:=fun _=>False) (Fr.same (s8.trans s9))
  have hd9:upd (upd H7 r0 (.lst xs0)) dn (.lst vd) dn = some (.lst vd):=ja
  have qd9:=va s9 qd
  generalize upd (upd H7 r0 (.lst xs0)) dn (.lst vd) = H9 at S9 B9 ua9 pv9 hd9 qd9
  clear s8 s9 qd px0 ndn nr0
  have hasT : ∀ {H:Hp} {r:Addr} {vs:List V} {ts:List (List Int)},H r = some (.lst vs) → jhh K H vs ts → qk K H (.lst (ts.map jy8)) (.ref r):=fun h q=>by
   rw [qk]
   exact ⟨_,_,rfl,SqL.of h,jif (fun x a h=>by obtain ⟨b,rfl,q⟩:=h; exact jw5 q) q⟩
  have depT : ∀ ts:List (List Int),jj5 (.lst (ts.map jy8)) ≤ 60:=fun ts=>by
   have:=jlx ts
   rw [jj5]
   omega
  refine hN (lsg a To pa W.x cr few fo ho be ro sh [v1,some (.ref al),w3,some (.int h0),some (.ref dn),none,none,none,none,none]) _ (jkx fun N hN=>⟨_,rfl,ho,rfl,⟨_,SqL.of B9.ho.1⟩,jfy (K:=K) (a:=ho) (xs:=p.hs.map V.int) (fun j σ H'=>∃ w3 w6 w7 w8 w9 w10,σ = lsg a To pa W.x cr few fo ho be ro sh [v1,some (.ref al),w3,some (.int h0),some (.ref dn),w6,w7,w8,w9,w10] ∧ wz H9 H') ⟨w3,none,none,none,none,none,rfl,wz.refl _⟩ (fun j σ H' _ ⟨_,_,_,_,_,_,_,sm⟩=>SqL.of (sm _ _ B9.ho.1)) ?_ ?_⟩)
  ·rintro j y σ H10 ey ⟨w3,w6,w7,w8,w9,w10,rfl,sm10⟩
   obtain ⟨h,hh,rfl⟩:=int_at ey
   obtain ⟨κ,ek,km⟩:=hk hh
   have dw : κ.done.length + κ.wait.length ≤ L.length:=(g.ksz km).dw
   obtain ⟨pdn,pwt,ehd⟩ : κ.done.Perm κ0.done ∧ κ.wait.Perm κ0.wait ∧ κ.held = κ0.held:=g.same st km km0
   have S10:=S9.same sm10
   refine jkx fun G hG=>⟨_,rfl,W.x,W.dx,_,rfl,S10.w.o.ob.1,qv,_,rfl,ρ,0,W,ω,h,κ,rfl,S10.w.o,ek,by omega,fun r1 xs1 nr1 px1=>?_⟩
   have s11:=jg (o:=.lst xs1) nr1
   refine ⟨r1,xs1,κ.done.map vu,rfl,SqL.of ja,va s11 (jfl px1),by rw [Paired.length px1]; omega,tnd (g.ks _ km).2.1.hi.nd,tne,fun r2 v2 t2 ix nr2 _ _ _ _ pp2 qq2 rr2=>?_⟩
   have s12:=jg (o:=.lst v2) nr2
   have et:t2 = td:=jqy pp2 rr2 (pd.trans (pdn.symm.map _)) rd
   have sm12:=(sm10.trans s11).trans s12
   refine ⟨_,rfl,_,_,hasT ja (va s12 qq2),hasT (sm12 _ _ hd9) (va sm12 qd9),depT _,_,rfl,?_⟩
   rw [et,jn1]
   refine pq ?_
   have S12:=S9.same sm12
   generalize upd (upd H10 r1 (.lst xs1)) r2 (.lst v2) = H12 at sm12 S12
   clear s11 s12 px1 nr1 nr2 qq2
   have lh : κ.held.length = ω.n:=(g.ok.ks _ km).h
   have en:=S7.w.n
   refine ⟨_,rfl,W.x,W.dx,_,rfl,S12.w.o.ob.1,qv,_,rfl,ρ,0,W,ω,h,κ,rfl,S12.w.o,ek,by omega,fun r3 nr3=>?_⟩
   have s13:=jg (o:=.lst (κ.held.map V.int)) nr3
   have S13:=S12.same s13
   refine ⟨_,rfl,W.x,W.dx,_,rfl,S13.w.o.ob.1,qv,_,rfl,ρ,0,W,ω,h0,κ0,rfl,S13.w.o,ek0,by rw [← ehd]; omega,fun r4 nr4=>?_⟩
   have s14:=jg (o:=.lst (κ0.held.map V.int)) nr4
   refine ⟨_,_,jao (SqL.of (s14 _ _ ja)),jao (SqL.of ja),jhk _,_,rfl,?_⟩
   rw [js1,decide_eq_true ehd]
   refine pq ?_
   have sm14:=(sm12.trans s13).trans s14
   have S14:=S9.same sm14
   generalize upd (upd H12 r3 (.lst (κ.held.map V.int))) r4 (.lst (κ0.held.map V.int)) = H14 at sm14 S14
   clear s13 s14 S13 nr3 nr4
   have wnd:=(g.ok.ks _ km).nd
   have wnd0:=(g.ok.ks _ km0).nd
   refine hG (lsg a To pa W.x cr few fo ho be ro sh [v1,some (.ref al),some (.int h),some (.int h0),some (.ref dn),w6,w7,w8,w9,w10]) _ (jkx fun G hG=>⟨_,rfl,W.x,W.dx,_,rfl,S14.w.o.ob.1,qv,_,rfl,ρ,0,W,ω,h,κ,rfl,S14.w.o,ek,by omega,wnd,fun r5 v5 t5 nr5 p5 q5 u5=>?_⟩)
   have s15:=jg (o:=.lst v5) nr5
   have S15:=S14.same s15
   refine ⟨_,rfl,W.x,W.dx,_,rfl,S15.w.o.ob.1,qv,_,rfl,ρ,0,W,ω,h0,κ0,rfl,S15.w.o,ek0,by omega,wnd0,fun r6 v6 t6 nr6 p6 q6 u6=>?_⟩
   have s16:=jg (o:=.lst v6) nr6
   have ew:t5 = t6:=jqy p5 q5 (p6.trans (pwt.symm.map _)) q6
   refine ⟨_,_,hasT (s16 _ _ ja) (va (s15.trans s16) u5),hasT ja (va s16 u6),depT _,_,rfl,?_⟩
   rw [ew,jn1]
   refine pq ?_
   have sm16:=(sm14.trans s15).trans s16
   have S16:=S9.same sm16
   generalize upd (upd H14 r5 (.lst v5)) r6 (.lst v6) = H16 at sm16 S16
   clear s15 s16 S15 nr5 nr6 u5 u6 p5 q5 p6 q6 ew
   refine hG _ _ ⟨_,rfl,W.x,W.dx,_,rfl,S16.w.o.ob.1,qv,_,rfl,ρ,0,W,ω,h,κ,rfl,S16.w.o,ek,by omega,wnd,fun r7 v7 t7 nr7 p7 _ u7=>?_⟩
   have s17:=jg (o:=.lst v7) nr7
   have sm17:=sm16.trans s17
   have h717:upd H16 r7 (.lst v7) r7 = some (.lst v7):=ja
   have u717:=va s17 u7
   generalize upd H16 r7 (.lst v7) = H17 at sm17 h717 u717
   refine ⟨r7,rfl,⟨_,SqL.of h717⟩,jfy (K:=K) (a:=r7) (xs:=v7) (fun i σ H'=>∃ u6 u7 u8 u9 u10,σ = lsg a To pa W.x cr few fo ho be ro sh [v1,some (.ref al),some (.int h),some (.int h0),some (.ref dn),u6,u7,u8,u9,u10] ∧ wz H17 H') ⟨w6,w7,w8,w9,w10,rfl,wz.refl _⟩ (fun i σ H' _ ⟨_,_,_,_,_,_,sm⟩=>SqL.of (sm _ _ h717)) ?_ ?_⟩
   ·rintro i y σ H18 ey ⟨u6,u7,u8,u9,u10,rfl,sm18⟩
    obtain ⟨ti,eti,q,rfl,hq⟩:=qi (va sm18 u717) ey
    obtain ⟨o,ow,rfl⟩:=List.mem_map.mp (p7.mem_iff.mp (List.mem_of_getElem? eti))
    have sm9:=sm17.trans sm18
    refine ⟨q,_,rfl,hq,rfl,_,_,rfl,_,_,rfl,_,_,rfl,_,_,rfl,rfl,?_⟩
    refine jkx fun G' hG'=>⟨_,rfl,dn,rfl,⟨_,SqL.of (sm9 _ _ hd9)⟩,jpk (K:=K) (a:=dn) (xs:=vd) (fun i ys σ H'=>∃ v,σ = [v,some (.int o.p)] ∧ H' = H18 ∧ ys.length = ((td.take i).filter fun t=>decide (t.head? = some o.p)).length) ⟨none,rfl,rfl,rfl⟩ ?_ ?_ ?_⟩
    ·rintro i ys σ H' hi ⟨v,rfl,rfl,ly⟩
     refine ⟨SqL.of (sm9 _ _ hd9),j5l ?_⟩
     rw [ly]
     refine Nat.le_trans (List.length_filter_le _ _) ?_
     rw [List.length_take,pd.length_eq,List.length_map]
     omega
    ·rintro i y ys σ H' ey' ⟨v,rfl,rfl,ly⟩
     obtain ⟨ti',eti',q',rfl,hq'⟩:=qi (va sm9 qd9) ey'
     obtain ⟨o',_,rfl⟩:=List.mem_map.mp (pd.mem_iff.mp (List.mem_of_getElem? eti'))
     have et:((td.take (i + 1)).filter fun t=>decide (t.head? = some o.p)) = ((td.take i).filter fun t=>decide (t.head? = some o.p)) ++ if o'.p = o.p then [vu o'] else []:=by
      rw [take_snoc eti',List.filter_append]
      congr 1
      have:(vu o').head? = some o'.p:=rfl
      by_cases z:o'.p = o.p <;> simp [this,z]
     refine ⟨_,rfl,q',jn9 o',0,.int o'.p,rfl,rfl,hq',rfl,_,rfl,rfl,_,rfl,jgn (fun z=>?_) (fun z=>?_)⟩
     ·refine ⟨_,rfl,_,rfl,rfl,?_⟩
      rw [et,if_pos (V.int.inj (of_decide_eq_true z)),List.length_append,List.length_append,ly]
      rfl
     ·refine ⟨_,rfl,rfl,?_⟩
      rw [et,if_neg (fun y=>z (by rw [y]; exact decide_eq_true rfl)),List.append_nil,ly]
    rintro ys σ H' ⟨v,rfl,rfl,ly⟩ r8 nr8
    have hv:ys.length = (ofP o.p κ.done).length:=by
     rw [ly,Paired.length qd9,List.take_length,(pd.filter _).length_eq,List.filter_map,List.length_map]
     have ef:((fun t:List Int=>decide (t.head? = some o.p)) ∘ vu) = fun o':O=>decide (o'.p = o.p):=funext fun o'=>by
      show decide (some o'.p = some o.p) = _
      simp
     rw [ef]
     exact ((pdn.filter _).length_eq).symm
    have s19:=jg (o:=.lst ys) nr8
    refine ⟨r8,ys,rfl,.inl (SqL.of ja),?_⟩
    rw [hv]
    have sm19:=sm18.trans s19
    have S19:=S9.same (sm17.trans sm19)
    generalize upd H' r8 (.lst ys) = H19 at sm19 S19
    refine hG' (lsg a To pa W.x cr few fo ho be ro sh [v1,some (.ref al),some (.int h),some (.int h0),some (.ref dn),some (.int o.p),some (.int o.n),some (.int o.g),some (.int o.m),some (.int ((ofP o.p κ.done).length:Int))]) _ ⟨_,rfl,_,rfl,rfl,_,rfl,jgn (fun z=>?_) (fun z=>pq ⟨_,_,_,_,_,rfl,sm19⟩)⟩
    refine ⟨_,rfl,_,rfl,W.x,W.dx,_,rfl,S19.w.o.ob.1,qv,_,rfl,ρ,0,W,ω,h,κ,rfl,S19.w.o,ek,by omega,fun r9 nr9=>?_⟩
    obtain ⟨p0,p1,_⟩:=zy.mp (g.lo o ((g.ks _ km).2.1.wl o ow))
    refine ⟨_,rfl,r9,_,o.p,.int (gI κ.held o.p),rfl,rfl,SqL.of ja,jhn p0 (by rw [List.getElem?_map,jwc p0 (by omega)]; rfl),_,_,rfl,rfl,_,rfl,?_⟩
    rw [decide_eq_false (fun y=>g.due km ow ⟨V.int.inj (of_decide_eq_true z),y⟩)]
    exact pq ⟨_,_,_,_,_,rfl,sm19.trans (jg nr9)⟩
   rintro σ H18 ⟨u6,u7,u8,u9,u10,rfl,sm18⟩
   exact ⟨_,_,_,_,_,_,rfl,sm17.trans sm18⟩
  rintro σ H10 ⟨w3,w6,w7,w8,w9,w10,rfl,sm10⟩
  have ua10:=ua9.fr (P:=fun _=>False) (Fr.same sm10)
  have pv10:Paired (zj H10 ρ) vs os:=Paired.pz pv9 fun _ _=>zj.fr (P:=fun _=>False) (Fr.same sm10)
  refine hN _ _ ⟨_,rfl,al,rfl,⟨_,SqL.of ua10.1⟩,jpk (K:=K) (a:=al) (xs:=vs) (fun i ys σ H'=>∃ v,σ = [v,some (.ref dn)] ∧ H' = H10 ∧ ys = []) ⟨none,rfl,rfl,rfl⟩ ?_ ?_ ?_⟩
  ·rintro i ys σ H' hi ⟨v,rfl,rfl,rfl⟩
   exact ⟨SqL.of ua10.1,Nat.zero_le _⟩
  ·rintro i y ys σ H' ey ⟨v,rfl,rfl,rfl⟩
   obtain ⟨o,eo,q,rfl,nq,hq⟩:=qi pv10 ey
   obtain ⟨c,hc,hd⟩:=kd8 o (List.mem_of_getElem? eo)
   refine ⟨_,rfl,_,rfl,dn,vd,vu o,td,rfl,SqL.of (sm10 _ _ hd9),⟨q,rfl,SqT.of hq⟩,va sm10 qd9,_,rfl,?_⟩
   rw [if_pos rfl,decide_eq_true (pd.mem_iff.mpr (List.mem_map_of_mem (g.sub st hc km0 o hd)))]
   exact pq ⟨_,rfl,rfl,rfl⟩
  rintro ys σ H' ⟨v,rfl,rfl,rfl⟩ r12 nr12
  refine ⟨zs0,fun e12 ne12=>⟨.lst [],.lst [],?_,?_,by simp [jj5,je0],?_⟩⟩
  ·rw [qk]
   exact ⟨_,[],rfl,SqL.of (jg ne12 _ _ ja),by rw [yg]⟩
  ·rw [qk]
   exact ⟨_,[],rfl,SqL.of ja,by rw [yg]⟩
  rw [jn1]
  exact k _
end
abbrev aN (K:W.Frag) (x:Str) (v:Option Value) : Prop:=W.nsIn K mainGlobals x = some v
abbrev aF (K:W.Frag) (a:Addr) (x:Str) (v:Option Value) : Prop:=W.findIn K (.ref a) x = some v
abbrev aL (K:W.Frag) (f:Addr) (n q:Str) (s:Stmt) (oc:Value) (od:Option Addr) (kV dc pm:Value) (an:Option Addr) (cd ct:Value) (sl:Array (Option Value)) : Prop:=K.lookup f = some ⟨oc,od,.func (W.fnOf n q (jlv s) (jha s) (jh s) .none kV dc pm an cd ct),sl⟩
set_option maxHeartbeats 4000000 in
theorem all_mk {l:W.OpenLaw} {w:World} {K:W.Frag} {h:Heap} {mg:Str → Option Value} {fa:Addr} (X:K.In h) (G:h.Ns mainGlobals mg) (hfa:mg "law" = some (.ref fa))
 {ca0 ca1 ca2 ca3 xa0 xa1 xa2 xa3 xa4 xa5 xa6 xa7 xa8 xa9 xa10 xa11 f0 f1 f2 kd2 f3 f4 f5 f6 f7 f8 f9 f10 f11 f12 f13 f14 f15 f16 f17 f18 f19 f20 f21 f22 f23 f24 f25 f26 f27 f28 f29 f30 f31 f32 f33 f34 f35 f36 f37 f38 f39 f40 f41 f42 f43 f44 f45 f46 f47 f48 f49 f50 f51 f52 f53 f54 f55 f56 f57 f58 f59 f60 f61:Addr}
 {oc0 kV0 dc0 pm0 cd0 ct0 oc1 kV1 dc1 pm1 cd1 ct1 oc2 dc2 pm2 cd2 ct2 oc3 kV3 dc3 pm3 cd3 ct3 oc4 kV4 dc4 pm4 cd4 ct4 oc5 kV5 dc5 pm5 cd5 ct5 oc6 kV6 dc6 pm6 cd6 ct6 oc7 kV7 dc7 pm7 cd7 ct7 oc8 kV8 dc8 pm8 cd8 ct8 oc9 kV9 dc9 pm9 cd9 ct9 oc10 kV10 dc10 pm10 cd10 ct10 oc11 kV11 dc11 pm11 cd11 ct11 oc12 kV12 dc12 pm12 cd12 ct12 oc13 kV13 dc13 pm13 cd13 ct13 oc14 kV14 dc14 pm14 cd14 ct14 oc15 kV15 dc15 pm15 cd15 ct15 oc16 kV16 dc16 pm16 cd16 ct16 oc17 kV17 dc17 pm17 cd17 ct17 oc18 kV18 dc18 pm18 cd18 ct18 oc19 kV19 dc19 pm19 cd19 ct19 oc20 kV20 dc20 pm20 cd20 ct20 oc21 kV21 dc21 pm21 cd21 ct21 oc22 kV22 dc22 pm22 cd22 ct22 oc23 kV23 dc23 pm23 cd23 ct23 oc24 kV24 dc24 pm24 cd24 ct24 oc25 kV25 dc25 pm25 cd25 ct25 oc26 kV26 dc26 pm26 cd26 ct26 oc27 kV27 dc27 pm27 cd27 ct27 oc28 kV28 dc28 pm28 cd28 ct28 oc29 kV29 dc29 pm29 cd29 ct29 oc30 kV30 dc30 pm30 cd30 ct30 oc31 kV31 dc31 pm31 cd31 ct31 oc32 kV32 dc32 pm32 cd32 ct32 oc33 kV33 dc33 pm33 cd33 ct33 oc34 kV34 dc34 pm34 cd34 ct34 oc35 kV35 dc35 pm35 cd35 ct35 oc36 kV36 dc36 pm36 cd36 ct36 oc37 kV37 dc37 pm37 cd37 ct37 oc38 kV38 dc38 pm38 cd38 ct38 oc39 kV39 dc39 pm39 cd39 ct39 oc40 kV40 dc40 pm40 cd40 ct40 oc41 kV41 dc41 pm41 cd41 ct41 oc42 kV42 dc42 pm42 cd42 ct42 oc43 kV43 dc43 pm43 cd43 ct43 oc44 kV44 dc44 pm44 cd44 ct44 oc45 kV45 dc45 pm45 cd45 ct45 oc46 kV46 dc46 pm46 cd46 ct46 oc47 kV47 dc47 pm47 cd47 ct47 oc48 kV48 dc48 pm48 cd48 ct48 oc49 kV49 dc49 pm49 cd49 ct49 oc50 kV50 dc50 pm50 cd50 ct50 oc51 kV51 dc51 pm51 cd51 ct51 oc52 kV52 dc52 pm52 cd52 ct52 oc53 kV53 dc53 pm53 cd53 ct53 oc54 kV54 dc54 pm54 cd54 ct54 oc55 kV55 dc55 pm55 cd55 ct55 oc56 kV56 dc56 pm56 cd56 ct56 oc57 kV57 dc57 pm57 cd57 ct57 oc58 kV58 dc58 pm58 cd58 ct58 oc59 kV59 dc59 pm59 cd59 ct59 oc60 kV60 dc60 pm60 cd60 ct60 oc61 kV61 dc61 pm61 cd61 ct61:Value}
 {od0 an0 od1 an1 od2 an2 od3 an3 od4 an4 od5 an5 od6 an6 od7 an7 od8 an8 od9 an9 od10 an10 od11 an11 od12 an12 od13 an13 od14 an14 od15 an15 od16 an16 od17 an17 od18 an18 od19 an19 od20 an20 od21 an21 od22 an22 od23 an23 od24 an24 od25 an25 od26 an26 od27 an27 od28 an28 od29 an29 od30 an30 od31 an31 od32 an32 od33 an33 od34 an34 od35 an35 od36 an36 od37 an37 od38 an38 od39 an39 od40 an40 od41 an41 od42 an42 od43 an43 od44 an44 od45 an45 od46 an46 od47 an47 od48 an48 od49 an49 od50 an50 od51 an51 od52 an52 od53 an53 od54 an54 od55 an55 od56 an56 od57 an57 od58 an58 od59 an59 od60 an60 od61 an61:Option Addr}
 {sl0 sl1 sl2 sl3 sl4 sl5 sl6 sl7 sl8 sl9 sl10 sl11 sl12 sl13 sl14 sl15 sl16 sl17 sl18 sl19 sl20 sl21 sl22 sl23 sl24 sl25 sl26 sl27 sl28 sl29 sl30 sl31 sl32 sl33 sl34 sl35 sl36 sl37 sl38 sl39 sl40 sl41 sl42 sl43 sl44 sl45 sl46 sl47 sl48 sl49 sl50 sl51 sl52 sl53 sl54 sl55 sl56 sl57 sl58 sl59 sl60 sl61:Array (Option Value)}
 {kt2 gt0 gt1 gt2 gt3 gt4 gt5 gt6 gt7 gt8:Tok}
 (cm0:aN K "Board" (some (.ref ca0)))
 (cg0:W.plainGet K ca0 Str.empty = true) (ch0:W.hasDictIn K ca0 = true) (co0:W.plainOver K ca0 = true) (cs0:aF K ca0 "__setattr__" (some (.builtin "object.__setattr__")))
 (cn0_0:aF K ca0 "enough" none)
 (cn0_1:aF K ca0 "signers" none)
 (cm1:aN K "Keeper" (some (.ref ca1)))
 (cg1:W.plainGet K ca1 Str.empty = true) (ch1:W.hasDictIn K ca1 = true) (co1:W.plainOver K ca1 = true) (cs1:aF K ca1 "__setattr__" (some (.builtin "object.__setattr__")))
 (cn1_0:aF K ca1 "held" none)
 (cn1_1:aF K ca1 "next_numbers" none)
 (cn1_2:aF K ca1 "done" none)
 (cn1_3:aF K ca1 "heard" none)
 (cn1_4:aF K ca1 "unvoted" none)
 (cn1_5:aF K ca1 "choices" none)
 (cn1_6:aF K ca1 "waiting" none)
 (cm2:aN K "World" (some (.ref ca2)))
 (cg2:W.plainGet K ca2 Str.empty = true) (ch2:W.hasDictIn K ca2 = true) (co2:W.plainOver K ca2 = true) (cs2:aF K ca2 "__setattr__" (some (.builtin "object.__setattr__")))
 (cn2_0:aF K ca2 "purses" none)
 (cn2_1:aF K ca2 "total" none)
 (cn2_2:aF K ca2 "lying" none)
 (cn2_3:aF K ca2 "cheating" none)
 (cn2_4:aF K ca2 "keepers" none)
 (cn2_5:aF K ca2 "board" none)
 (cn2_6:aF K ca2 "asked" none)
 (cn2_7:aF K ca2 "on_way" none)
 (cm3:aN K "Book" (some (.ref ca3)))
 (cg3:W.plainGet K ca3 Str.empty = true) (ch3:W.hasDictIn K ca3 = true) (co3:W.plainOver K ca3 = true) (cs3:aF K ca3 "__setattr__" (some (.builtin "object.__setattr__")))
 (cn3_0:aF K ca3 "held" none)
 (cn3_1:aF K ca3 "next_numbers" none)
 (cn3_2:aF K ca3 "done" none)
 (xm0:aN K "NoPurse" (some (.ref xa0)))
 (xm1:aN K "TooMuch" (some (.ref xa1)))
 (xm2:aN K "NotNow" (some (.ref xa2)))
 (xm3:aN K "PurseError" (some (.ref xa3)))
 (xm4:aN K "BadCut" (some (.ref xa4)))
 (xm5:aN K "BadText" (some (.ref xa5)))
 (xm6:aN K "BadPaper" (some (.ref xa6)))
 (xm7:aN K "NoHouse" (some (.ref xa7)))
 (xm8:aN K "NoLetter" (some (.ref xa8)))
 (xm9:aN K "BadNumber" (some (.ref xa9)))
 (xm10:aN K "BadOrder" (some (.ref xa10)))
 (xm11:aN K "BadHouses" (some (.ref xa11)))
 (a0:aN K "is_whole" (some (.ref f0)))
 (l0:aL K f0 "is_whole" "is_whole" je5 oc0 od0 kV0 dc0 pm0 an0 cd0 ct0 sl0)
 (c0:W.codeIn K cd0 "is_whole" = true) (k0:W.keepIn K (.ref f0) = true)
 (a1:aN K "is_between" (some (.ref f1)))
 (l1:aL K f1 "is_between" "is_between" ja4 oc1 od1 kV1 dc1 pm1 an1 cd1 ct1 sl1)
 (c1:W.codeIn K cd1 "is_between" = true) (k1:W.keepIn K (.ref f1) = true)
 (a2:aN K "is_order" (some (.ref f2)))
 (l2:aL K f2 "is_order" "is_order" jh0 oc2 od2 (.ref kd2) dc2 pm2 an2 cd2 ct2 sl2)
 (c2:W.codeIn K cd2 "is_order" = true) (k2:W.keepIn K (.ref f2) = true)
 (e2:W.nsIn K kd2 "purses" = some (some (.int 8 kt2)))
 (a3:aN K "place_of" (some (.ref f3)))
 (l3:aL K f3 "place_of" "place_of" je3 oc3 od3 kV3 dc3 pm3 an3 cd3 ct3 sl3)
 (c3:W.codeIn K cd3 "place_of" = true) (k3:W.keepIn K (.ref f3) = true)
 (a4:aN K "are_rising" (some (.ref f4)))
 (l4:aL K f4 "are_rising" "are_rising" jba oc4 od4 kV4 dc4 pm4 an4 cd4 ct4 sl4)
 (c4:W.codeIn K cd4 "are_rising" = true) (k4:W.keepIn K (.ref f4) = true)
 (a5:aN K "is_rising_row" (some (.ref f5)))
 (l5:aL K f5 "is_rising_row" "is_rising_row" vh oc5 od5 kV5 dc5 pm5 an5 cd5 ct5 sl5)
 (c5:W.codeIn K cd5 "is_rising_row" = true) (k5:W.keepIn K (.ref f5) = true)
 (a6:aN K "is_house_count" (some (.ref f6)))
 (l6:aL K f6 "is_house_count" "is_house_count" yq oc6 od6 kV6 dc6 pm6 an6 cd6 ct6 sl6)
 (c6:W.codeIn K cd6 "is_house_count" = true) (k6:W.keepIn K (.ref f6) = true)
 (a7:aN K "is_few" (some (.ref f7)))
 (l7:aL K f7 "is_few" "is_few" jk5 oc7 od7 kV7 dc7 pm7 an7 cd7 ct7 sl7)
 (c7:W.codeIn K cd7 "is_few" = true) (k7:W.keepIn K (.ref f7) = true)
 (a8:aN K "outnumber" (some (.ref f8)))
 (l8:aL K f8 "outnumber" "outnumber" jfu oc8 od8 kV8 dc8 pm8 an8 cd8 ct8 sl8)
 (c8:W.codeIn K cd8 "outnumber" = true) (k8:W.keepIn K (.ref f8) = true)
 (a9:aN K "enough_of" (some (.ref f9)))
 (l9:aL K f9 "enough_of" "enough_of" jfw oc9 od9 kV9 dc9 pm9 an9 cd9 ct9 sl9)
 (c9:W.codeIn K cd9 "enough_of" = true) (k9:W.keepIn K (.ref f9) = true)
 (a10:aN K "are_sums" (some (.ref f10)))
 (l10:aL K f10 "are_sums" "are_sums" jes oc10 od10 kV10 dc10 pm10 an10 cd10 ct10 sl10)
 (c10:W.codeIn K cd10 "are_sums" = true) (k10:W.keepIn K (.ref f10) = true)
 (a11:aN K "are_first_sums" (some (.ref f11)))
 (l11:aL K f11 "are_first_sums" "are_first_sums" yp oc11 od11 kV11 dc11 pm11 an11 cd11 ct11 sl11)
 (c11:W.codeIn K cd11 "are_first_sums" = true) (k11:W.keepIn K (.ref f11) = true)
 (a12:aF K xa0 "__init__" (some (.ref f12)))
 (l12:aL K f12 "__init__" "NoPurse.__init__" xq oc12 od12 kV12 dc12 pm12 an12 cd12 ct12 sl12)
 (c12:W.codeIn K cd12 "NoPurse.__init__" = true) (k12:W.keepIn K (.ref f12) = true)
 (xrn12:ju3 K xa0 f12 = true) (xd12a:aF K xa0 "__setattr__" (some (.builtin "object.__setattr__"))) (xd12b:aF K xa0 "__getattribute__" (some (.builtin "BaseException.__getattribute__"))) (xd12c:aF K xa0 "__getattr__" none) (xd12d:aF K xa0 "purse" none)
 (a13:aN K "check_houses" (some (.ref f13)))
 (l13:aL K f13 "check_houses" "check_houses" jay oc13 od13 kV13 dc13 pm13 an13 cd13 ct13 sl13)
 (c13:W.codeIn K cd13 "check_houses" = true) (k13:W.keepIn K (.ref f13) = true)
 (a14:aN K "check_purses" (some (.ref f14)))
 (l14:aL K f14 "check_purses" "check_purses" ja1 oc14 od14 kV14 dc14 pm14 an14 cd14 ct14 sl14)
 (c14:W.codeIn K cd14 "check_purses" = true) (k14:W.keepIn K (.ref f14) = true)
 (a15:aF K ca0 "__init__" (some (.ref f15))) (n15:W.isFn K (.ref f15) = true)
 (mk15:W.makesIn K ca0 = true) (mq15:W.keepIn K (.ref ca0) = true)
 (l15:aL K f15 "__init__" "Board.__init__" yx oc15 od15 kV15 dc15 pm15 an15 cd15 ct15 sl15)
 (c15:W.codeIn K cd15 "Board.__init__" = true) (k15:W.keepIn K (.ref f15) = true)
 (a16:aF K ca0 "is_carried" (some (.ref f16))) (n16:W.isFn K (.ref f16) = true)
 (l16:aL K f16 "is_carried" "Board.is_carried" xr oc16 od16 kV16 dc16 pm16 an16 cd16 ct16 sl16)
 (c16:W.codeIn K cd16 "Board.is_carried" = true) (k16:W.keepIn K (.ref f16) = true)
 (a17:aF K ca0 "put" (some (.ref f17))) (n17:W.isFn K (.ref f17) = true)
 (l17:aL K f17 "put" "Board.put" jc6 oc17 od17 kV17 dc17 pm17 an17 cd17 ct17 sl17)
 (c17:W.codeIn K cd17 "Board.put" = true) (k17:W.keepIn K (.ref f17) = true)
 (a18:aF K ca0 "carried" (some (.ref f18))) (n18:W.isFn K (.ref f18) = true)
 (l18:aL K f18 "carried" "Board.carried" vg oc18 od18 kV18 dc18 pm18 an18 cd18 ct18 sl18)
 (c18:W.codeIn K cd18 "Board.carried" = true) (k18:W.keepIn K (.ref f18) = true)
 (a19:aF K ca3 "__init__" (some (.ref f19))) (n19:W.isFn K (.ref f19) = true)
 (mk19:W.makesIn K ca3 = true) (mq19:W.keepIn K (.ref ca3) = true)
 (l19:aL K f19 "__init__" "Book.__init__" y9 oc19 od19 kV19 dc19 pm19 an19 cd19 ct19 sl19)
 (c19:W.codeIn K cd19 "Book.__init__" = true) (k19:W.keepIn K (.ref f19) = true)
 (a20:aF K ca3 "is_past" (some (.ref f20))) (n20:W.isFn K (.ref f20) = true)
 (l20:aL K f20 "is_past" "Book.is_past" gm oc20 od20 kV20 dc20 pm20 an20 cd20 ct20 sl20)
 (c20:W.codeIn K cd20 "Book.is_past" = true) (k20:W.keepIn K (.ref f20) = true)
 (a21:aF K ca3 "is_due" (some (.ref f21))) (n21:W.isFn K (.ref f21) = true)
 (l21:aL K f21 "is_due" "Book.is_due" u3 oc21 od21 kV21 dc21 pm21 an21 cd21 ct21 sl21)
 (c21:W.codeIn K cd21 "Book.is_due" = true) (k21:W.keepIn K (.ref f21) = true)
 (a22:aF K ca3 "settle" (some (.ref f22))) (n22:W.isFn K (.ref f22) = true)
 (l22:aL K f22 "settle" "Book.settle" uh oc22 od22 kV22 dc22 pm22 an22 cd22 ct22 sl22)
 (c22:W.codeIn K cd22 "Book.settle" = true) (k22:W.keepIn K (.ref f22) = true)
 (a23:aF K ca1 "__init__" (some (.ref f23))) (n23:W.isFn K (.ref f23) = true)
 (mk23:W.makesIn K ca1 = true) (mq23:W.keepIn K (.ref ca1) = true)
 (l23:aL K f23 "__init__" "Keeper.__init__" yb oc23 od23 kV23 dc23 pm23 an23 cd23 ct23 sl23)
 (c23:W.codeIn K cd23 "Keeper.__init__" = true) (k23:W.keepIn K (.ref f23) = true)
 (a24:aF K ca1 "left_of" (some (.ref f24))) (n24:W.isFn K (.ref f24) = true)
 (l24:aL K f24 "left_of" "Keeper.left_of" yt oc24 od24 kV24 dc24 pm24 an24 cd24 ct24 sl24)
 (c24:W.codeIn K cd24 "Keeper.left_of" = true) (k24:W.keepIn K (.ref f24) = true)
 (a25:aF K ca1 "give_votes" (some (.ref f25))) (n25:W.isFn K (.ref f25) = true)
 (l25:aL K f25 "give_votes" "Keeper.give_votes" xf oc25 od25 kV25 dc25 pm25 an25 cd25 ct25 sl25)
 (c25:W.codeIn K cd25 "Keeper.give_votes" = true) (k25:W.keepIn K (.ref f25) = true)
 (a26:aF K ca1 "first_due" (some (.ref f26))) (n26:W.isFn K (.ref f26) = true)
 (l26:aL K f26 "first_due" "Keeper.first_due" xo oc26 od26 kV26 dc26 pm26 an26 cd26 ct26 sl26)
 (c26:W.codeIn K cd26 "Keeper.first_due" = true) (k26:W.keepIn K (.ref f26) = true)
 (a27:aF K ca1 "go_on" (some (.ref f27))) (n27:W.isFn K (.ref f27) = true)
 (l27:aL K f27 "go_on" "Keeper.go_on" gi oc27 od27 kV27 dc27 pm27 an27 cd27 ct27 sl27)
 (c27:W.codeIn K cd27 "Keeper.go_on" = true) (k27:W.keepIn K (.ref f27) = true)
 (a28:aF K ca1 "hear" (some (.ref f28))) (n28:W.isFn K (.ref f28) = true)
 (l28:aL K f28 "hear" "Keeper.hear" uk oc28 od28 kV28 dc28 pm28 an28 cd28 ct28 sl28)
 (c28:W.codeIn K cd28 "Keeper.hear" = true) (k28:W.keepIn K (.ref f28) = true)
 (a29:aF K ca1 "take_paper" (some (.ref f29))) (n29:W.isFn K (.ref f29) = true)
 (l29:aL K f29 "take_paper" "Keeper.take_paper" xg oc29 od29 kV29 dc29 pm29 an29 cd29 ct29 sl29)
 (c29:W.codeIn K cd29 "Keeper.take_paper" = true) (k29:W.keepIn K (.ref f29) = true)
 (a30:aF K ca2 "__init__" (some (.ref f30))) (n30:W.isFn K (.ref f30) = true)
 (mk30:W.makesIn K ca2 = true) (mq30:W.keepIn K (.ref ca2) = true)
 (l30:aL K f30 "__init__" "World.__init__" gu oc30 od30 kV30 dc30 pm30 an30 cd30 ct30 sl30)
 (c30:W.codeIn K cd30 "World.__init__" = true) (k30:W.keepIn K (.ref f30) = true)
 (a31:aF K ca2 "letters" (some (.ref f31))) (n31:W.isFn K (.ref f31) = true)
 (l31:aL K f31 "letters" "World.letters" y6 oc31 od31 kV31 dc31 pm31 an31 cd31 ct31 sl31)
 (c31:W.codeIn K cd31 "World.letters" = true) (k31:W.keepIn K (.ref f31) = true)
 (a32:aF K ca2 "honest" (some (.ref f32))) (n32:W.isFn K (.ref f32) = true)
 (l32:aL K f32 "honest" "World.honest" jaw oc32 od32 kV32 dc32 pm32 an32 cd32 ct32 sl32)
 (c32:W.codeIn K cd32 "World.honest" = true) (k32:W.keepIn K (.ref f32) = true)
 (a33:aF K ca2 "papers" (some (.ref f33))) (n33:W.isFn K (.ref f33) = true)
 (l33:aL K f33 "papers" "World.papers" gj oc33 od33 kV33 dc33 pm33 an33 cd33 ct33 sl33)
 (c33:W.codeIn K cd33 "World.papers" = true) (k33:W.keepIn K (.ref f33) = true)
 (a34:aF K ca2 "keeper_of" (some (.ref f34))) (n34:W.isFn K (.ref f34) = true)
 (l34:aL K f34 "keeper_of" "World.keeper_of" x9 oc34 od34 kV34 dc34 pm34 an34 cd34 ct34 sl34)
 (c34:W.codeIn K cd34 "World.keeper_of" = true) (k34:W.keepIn K (.ref f34) = true)
 (a35:aF K ca2 "sums" (some (.ref f35))) (n35:W.isFn K (.ref f35) = true)
 (l35:aL K f35 "sums" "World.sums" ja3 oc35 od35 kV35 dc35 pm35 an35 cd35 ct35 sl35)
 (c35:W.codeIn K cd35 "World.sums" = true) (k35:W.keepIn K (.ref f35) = true)
 (a36:aF K ca2 "settled" (some (.ref f36))) (n36:W.isFn K (.ref f36) = true)
 (l36:aL K f36 "settled" "World.settled" vm oc36 od36 kV36 dc36 pm36 an36 cd36 ct36 sl36)
 (c36:W.codeIn K cd36 "World.settled" = true) (k36:W.keepIn K (.ref f36) = true)
 (a37:aF K ca2 "waits" (some (.ref f37))) (n37:W.isFn K (.ref f37) = true)
 (l37:aL K f37 "waits" "World.waits" ui oc37 od37 kV37 dc37 pm37 an37 cd37 ct37 sl37)
 (c37:W.codeIn K cd37 "World.waits" = true) (k37:W.keepIn K (.ref f37) = true)
 (a38:aF K ca2 "check_purse" (some (.ref f38))) (n38:W.isFn K (.ref f38) = true)
 (l38:aL K f38 "check_purse" "World.check_purse" xh oc38 od38 kV38 dc38 pm38 an38 cd38 ct38 sl38)
 (c38:W.codeIn K cd38 "World.check_purse" = true) (k38:W.keepIn K (.ref f38) = true)
 (a39:aF K ca2 "check_asker" (some (.ref f39))) (n39:W.isFn K (.ref f39) = true)
 (l39:aL K f39 "check_asker" "World.check_asker" xa oc39 od39 kV39 dc39 pm39 an39 cd39 ct39 sl39)
 (c39:W.codeIn K cd39 "World.check_asker" = true) (k39:W.keepIn K (.ref f39) = true)
 (a40:aF K ca2 "check_order" (some (.ref f40))) (n40:W.isFn K (.ref f40) = true)
 (l40:aL K f40 "check_order" "World.check_order" zx oc40 od40 kV40 dc40 pm40 an40 cd40 ct40 sl40)
 (c40:W.codeIn K cd40 "World.check_order" = true) (k40:W.keepIn K (.ref f40) = true)
 (a41:aF K ca2 "check_liar" (some (.ref f41))) (n41:W.isFn K (.ref f41) = true)
 (l41:aL K f41 "check_liar" "World.check_liar" xm oc41 od41 kV41 dc41 pm41 an41 cd41 ct41 sl41)
 (c41:W.codeIn K cd41 "World.check_liar" = true) (k41:W.keepIn K (.ref f41) = true)
 (a42:aF K ca2 "write_to_all" (some (.ref f42))) (n42:W.isFn K (.ref f42) = true)
 (l42:aL K f42 "write_to_all" "World.write_to_all" zl oc42 od42 kV42 dc42 pm42 an42 cd42 ct42 sl42)
 (c42:W.codeIn K cd42 "World.write_to_all" = true) (k42:W.keepIn K (.ref f42) = true)
 (a43:aF K ca2 "put_votes" (some (.ref f43))) (n43:W.isFn K (.ref f43) = true)
 (l43:aL K f43 "put_votes" "World.put_votes" ye oc43 od43 kV43 dc43 pm43 an43 cd43 ct43 sl43)
 (c43:W.codeIn K cd43 "World.put_votes" = true) (k43:W.keepIn K (.ref f43) = true)
 (a44:aF K ca2 "ask" (some (.ref f44))) (n44:W.isFn K (.ref f44) = true)
 (l44:aL K f44 "ask" "World.ask" jcg oc44 od44 kV44 dc44 pm44 an44 cd44 ct44 sl44)
 (c44:W.codeIn K cd44 "World.ask" = true) (k44:W.keepIn K (.ref f44) = true)
 (a45:aF K ca2 "cheat" (some (.ref f45))) (n45:W.isFn K (.ref f45) = true)
 (l45:aL K f45 "cheat" "World.cheat" jac oc45 od45 kV45 dc45 pm45 an45 cd45 ct45 sl45)
 (c45:W.codeIn K cd45 "World.cheat" = true) (k45:W.keepIn K (.ref f45) = true)
 (a46:aF K ca2 "lie" (some (.ref f46))) (n46:W.isFn K (.ref f46) = true)
 (l46:aL K f46 "lie" "World.lie" jct oc46 od46 kV46 dc46 pm46 an46 cd46 ct46 sl46)
 (c46:W.codeIn K cd46 "World.lie" = true) (k46:W.keepIn K (.ref f46) = true)
 (a47:aF K ca2 "show" (some (.ref f47))) (n47:W.isFn K (.ref f47) = true)
 (l47:aL K f47 "show" "World.show" jbe oc47 od47 kV47 dc47 pm47 an47 cd47 ct47 sl47)
 (c47:W.codeIn K cd47 "World.show" = true) (k47:W.keepIn K (.ref f47) = true)
 (a48:aF K ca2 "come" (some (.ref f48))) (n48:W.isFn K (.ref f48) = true)
 (l48:aL K f48 "come" "World.come" jbb oc48 od48 kV48 dc48 pm48 an48 cd48 ct48 sl48)
 (c48:W.codeIn K cd48 "World.come" = true) (k48:W.keepIn K (.ref f48) = true)
 (a49:aF K ca2 "is_still" (some (.ref f49))) (n49:W.isFn K (.ref f49) = true)
 (l49:aL K f49 "is_still" "World.is_still" yu oc49 od49 kV49 dc49 pm49 an49 cd49 ct49 sl49)
 (c49:W.codeIn K cd49 "World.is_still" = true) (k49:W.keepIn K (.ref f49) = true)
 (a50:aN K "_law_town" (some (.ref f50)))
 (l50:aL K f50 "_law_town" "_law_town" jc9 oc50 od50 kV50 dc50 pm50 an50 cd50 ct50 sl50)
 (c50:W.codeIn K cd50 "_law_town" = true) (k50:W.keepIn K (.ref f50) = true)
 (a51:aN K "_law_draw" (some (.ref f51)))
 (l51:aL K f51 "_law_draw" "_law_draw" jcq oc51 od51 kV51 dc51 pm51 an51 cd51 ct51 sl51)
 (c51:W.codeIn K cd51 "_law_draw" = true) (k51:W.keepIn K (.ref f51) = true)
 (a52:aN K "_law_pick" (some (.ref f52)))
 (l52:aL K f52 "_law_pick" "_law_pick" jcl oc52 od52 kV52 dc52 pm52 an52 cd52 ct52 sl52)
 (c52:W.codeIn K cd52 "_law_pick" = true) (k52:W.keepIn K (.ref f52) = true)
 (a53:aN K "_law_refusal" (some (.ref f53)))
 (l53:aL K f53 "_law_refusal" "_law_refusal" gd oc53 od53 kV53 dc53 pm53 an53 cd53 ct53 sl53)
 (c53:W.codeIn K cd53 "_law_refusal" = true) (k53:W.keepIn K (.ref f53) = true)
 (a54:aN K "_law_some" (some (.ref f54)))
 (l54:aL K f54 "_law_some" "_law_some" jcu oc54 od54 kV54 dc54 pm54 an54 cd54 ct54 sl54)
 (c54:W.codeIn K cd54 "_law_some" = true) (k54:W.keepIn K (.ref f54) = true)
 (a55:aN K "_law_world" (some (.ref f55)))
 (l55:aL K f55 "_law_world" "_law_world" ja5 oc55 od55 kV55 dc55 pm55 an55 cd55 ct55 sl55)
 (c55:W.codeIn K cd55 "_law_world" = true) (k55:W.keepIn K (.ref f55) = true)
 (a56:aN K "_law_told" (some (.ref f56)))
 (l56:aL K f56 "_law_told" "_law_told" jdb oc56 od56 kV56 dc56 pm56 an56 cd56 ct56 sl56)
 (c56:W.codeIn K cd56 "_law_told" = true) (k56:W.keepIn K (.ref f56) = true)
 (a57:aN K "_law_letter" (some (.ref f57)))
 (l57:aL K f57 "_law_letter" "_law_letter" jab oc57 od57 kV57 dc57 pm57 an57 cd57 ct57 sl57)
 (c57:W.codeIn K cd57 "_law_letter" = true) (k57:W.keepIn K (.ref f57) = true)
 (a58:aN K "_law_order" (some (.ref f58)))
 (l58:aL K f58 "_law_order" "_law_order" ja9 oc58 od58 kV58 dc58 pm58 an58 cd58 ct58 sl58)
 (c58:W.codeIn K cd58 "_law_order" = true) (k58:W.keepIn K (.ref f58) = true)
 (a59:aN K "_law_go" (some (.ref f59)))
 (l59:aL K f59 "_law_go" "_law_go" jhs oc59 od59 kV59 dc59 pm59 an59 cd59 ct59 sl59)
 (c59:W.codeIn K cd59 "_law_go" = true) (k59:W.keepIn K (.ref f59) = true)
 (a60:aN K "_law_all_come" (some (.ref f60)))
 (l60:aL K f60 "_law_all_come" "_law_all_come" y7 oc60 od60 kV60 dc60 pm60 an60 cd60 ct60 sl60)
 (c60:W.codeIn K cd60 "_law_all_come" = true) (k60:W.keepIn K (.ref f60) = true)
 (a61:aN K "law" (some (.ref f61)))
 (l61:aL K f61 "law" "law" jyx oc61 od61 kV61 dc61 pm61 an61 cd61 ct61 sl61)
 (c61:W.codeIn K cd61 "law" = true) (k61:W.keepIn K (.ref f61) = true)
 (ih0:aF K ca1 "is_due" (some (.ref f21)))
 (ih1:aF K ca1 "is_past" (some (.ref f20)))
 (ih2:aF K ca1 "settle" (some (.ref f22)))
 (yp0:W.specialIn K (.ref ca3) "__getattribute__" = some (some (.builtin "type.__getattribute__"))) (yr0:W.readsIn K ca3 (.type "type") = true) (yf0:W.findCls K (.ref ca3) (.type "type") "__init__" = some (.val (.ref f19)))
 (hgc0:aN K "MOST_MUCH" (some (.int 1000 gt0)))
 (hgc1:aN K "LAST_NUMBER" (some (.int 99 gt1)))
 (hgc2:aN K "PAPER_LETTER" (some (.str "paper" gt2)))
 (hgc3:aN K "ORDER_LETTER" (some (.str "order" gt3)))
 (hgc4:aN K "MOST_HOUSES" (some (.int 16 gt4)))
 (hgc5:aN K "MOST_FEW" (some (.int 5 gt5)))
 (hgc6:aN K "MOST_FIRST_SUM" (some (.int 1000 gt6)))
 (hgc7:aN K "LEAST_PURSES" (some (.int 2 gt7)))
 (hgc8:aN K "MOST_PURSES" (some (.int 8 gt8)))
 (xg0:aF K xa0 "__getattribute__" (some (.builtin "BaseException.__getattribute__"))) (xh0:aF K xa0 "__getattr__" none) (xj0:aF K xa0 "__class__" (some (.builtin "object.__class__")))
 (xp0:W.mroIn K xa0 (.type "BaseException") = some true) (xo0:W.mroIn K xa0 (.type "object") = some true) (xs0:(W.clsIn K xa0).isSome = true)
 (xk0:kinds K (.ref xa0) [.ref xa9,.ref xa10,.ref xa11,.ref xa7,.ref xa0,.ref xa8,.ref xa2,.ref xa1,.ref xa6,.ref xa4,.ref xa5,.ref xa3,.type "ValueError"] = [some false,some false,some false,some false,some true,some false,some false,some false,some false,some false,some false,some true,some true])
 (xc0_0:W.kitCls K (.ref xa0) (.ref xa3) = some true)
 (xr1:W.excIn K xa1 j4q "ValueError.__new__" = true)
 (xg1:aF K xa1 "__getattribute__" (some (.builtin "BaseException.__getattribute__"))) (xh1:aF K xa1 "__getattr__" none) (xj1:aF K xa1 "__class__" (some (.builtin "object.__class__")))
 (xp1:W.mroIn K xa1 (.type "BaseException") = some true) (xo1:W.mroIn K xa1 (.type "object") = some true) (xs1:(W.clsIn K xa1).isSome = true)
 (xk1:kinds K (.ref xa1) [.ref xa9,.ref xa10,.ref xa11,.ref xa7,.ref xa0,.ref xa8,.ref xa2,.ref xa1,.ref xa6,.ref xa4,.ref xa5,.ref xa3,.type "ValueError"] = [some false,some false,some false,some false,some false,some false,some false,some true,some false,some false,some false,some true,some true])
 (xc1_0:W.kitCls K (.ref xa1) (.ref xa3) = some true)
 (xr2:W.excIn K xa2 j4q "ValueError.__new__" = true)
 (xg2:aF K xa2 "__getattribute__" (some (.builtin "BaseException.__getattribute__"))) (xh2:aF K xa2 "__getattr__" none) (xj2:aF K xa2 "__class__" (some (.builtin "object.__class__")))
 (xp2:W.mroIn K xa2 (.type "BaseException") = some true) (xo2:W.mroIn K xa2 (.type "object") = some true) (xs2:(W.clsIn K xa2).isSome = true)
 (xk2:kinds K (.ref xa2) [.ref xa9,.ref xa10,.ref xa11,.ref xa7,.ref xa0,.ref xa8,.ref xa2,.ref xa1,.ref xa6,.ref xa4,.ref xa5,.ref xa3,.type "ValueError"] = [some false,some false,some false,some false,some false,some false,some true,some false,some false,some false,some false,some true,some true])
 (xc2_0:W.kitCls K (.ref xa2) (.ref xa3) = some true)
 (xb0:W.mroIn K xa3 (.type "BaseException") = some true)
 (z0:aN K "isinstance" none)
 (z1:aN K "bool" none)
 (z2:aN K "int" none)
 (z3:aN K "len" none)
 (z4:aN K "tuple" none)
 (z5:aN K "sorted" none)
 (z6:aN K "list" none)
 (z7:aN K "sum" none)
 (z8:aN K "max" none)
 (z9:aN K "all" none)
 (z10:aN K "range" none)
 (z11:aN K "ValueError" none) :
 ∃ fd:FuncData,(∀ (s:Shared) (v:Value),BindsTo s fd ⟨[v],[]⟩ [("_law_script",v)]) ∧ ∀ base:Heap,K.In base → base.Ns mainGlobals mg → yf l.prog w K mg base CX0 12 fa fd ["_law_script"] (jyr K):=by
 have T:Txt K mg ⟨f0,_,f1,_,f2,_,f3,_,f4,_,f5,_,f6,_,f7,_,f8,_,f9,_,f10,_,f11,_,f12,_,f13,_,f14,_,f15,_,f16,_,f17,_,f18,_,f19,_,f20,_,f21,_,f22,_,f23,_,f24,_,f25,_,f26,_,f27,_,f28,_,f29,_,f30,_,f31,_,f32,_,f33,_,f34,_,f35,_,f36,_,f37,_,f38,_,f39,_,f40,_,f41,_,f42,_,f43,_,f44,_,f45,_,f46,_,f47,_,f48,_,f49,_,f50,_,f51,_,f52,_,f53,_,f54,_,f55,_,f56,_,f57,_,f58,_,f59,_,f60,_,f61,_,ca0,ca1,ca2,ca3,xa0,xa1,xa2,xa3,xa4,xa5,xa6,xa7,xa8,xa9,xa10,xa11⟩:={
  jey:=jj (st:=je5) l0 c0 k0
  jh4:=W.mg_of X G a0
  jhz:=bn1 (jj (st:=je5) l0 c0 k0) fun _ _ _ _ _ _ _=>rfl
  ql:=jj (st:=ja4) l1 c1 k1
  qr:=W.mg_of X G a1
  qt:=bn3 (jj (st:=ja4) l1 c1 k1) fun _ _ _ _ _ _ _ _ _=>rfl
  jez:=jj (st:=jh0) l2 c2 k2
  jh7:=W.mg_of X G a2
  jgs:=j0y fun _ _ _=>.of_eq rfl
  jnd:=⟨_,j4f e2 rfl rfl rfl rfl rfl rfl rfl (by decide +kernel)⟩
  je4:=jj (st:=je3) l3 c3 k3
  jh6:=W.mg_of X G a3
  jia:=bn1 (jj (st:=je3) l3 c3 k3) fun _ _ _ _ _ _ _=>rfl
  jg8:=jj (st:=jba) l4 c4 k4
  jnh:=W.mg_of X G a4
  jna:=bn2 (jj (st:=jba) l4 c4 k4) fun _ _ _ _ _ _ _ _=>rfl
  ub:=jj (st:=vh) l5 c5 k5
  jc8:=W.mg_of X G a5
  jcf:=bn2 (jj (st:=vh) l5 c5 k5) fun _ _ _ _ _ _ _ _=>rfl
  jbv:=jj (st:=yq) l6 c6 k6
  jgc:=W.mg_of X G a6
  jgi:=bn1 (jj (st:=yq) l6 c6 k6) fun _ _ _ _ _ _ _=>rfl
  jq7:=jj (st:=jk5) l7 c7 k7
  jvd:=W.mg_of X G a7
  jvc:=bn1 (jj (st:=jk5) l7 c7 k7) fun _ _ _ _ _ _ _=>rfl
  jj8:=jj (st:=jfu) l8 c8 k8
  jph:=W.mg_of X G a8
  jlh:=j0y fun _ _ _=>.of_eq rfl
  jj4:=jj (st:=jfw) l9 c9 k9
  jpp:=W.mg_of X G a9
  jku:=j0y fun _ _ _=>.of_eq rfl
  jmk:=jj (st:=jes) l10 c10 k10
  jqt:=W.mg_of X G a10
  jqp:=bn1 (jj (st:=jes) l10 c10 k10) fun _ _ _ _ _ _ _=>rfl
  jbj:=jj (st:=yp) l11 c11 k11
  jf4:=W.mg_of X G a11
  jgh:=bn1 (jj (st:=yp) l11 c11 k11) fun _ _ _ _ _ _ _=>rfl
  jdz:=jj (st:=xq) l12 c12 k12
  jkn:=⟨xrn12,a12,xd12a,xd12b,xd12c,xd12d⟩
  jdq:=bn2 (jj (st:=xq) l12 c12 k12) fun _ _ _ _ _ _ _ _=>rfl
  jec:=jj (st:=jay) l13 c13 k13
  ji9:=W.mg_of X G a13
  jga:=j6k fun _ _ _ _=>.of_eq rfl
  jel:=jj (st:=ja1) l14 c14 k14
  ji5:=W.mg_of X G a14
  jf7:=j0y fun _ _ _=>.of_eq rfl
  jgl:=jj (st:=yx) l15 c15 k15
  jmr:=⟨a15,n15,k15⟩
  jvi:=⟨mk15,a15,n15,mq15⟩
  jgd:=bn2 (jj (st:=yx) l15 c15 k15) fun _ _ _ _ _ _ _ _=>rfl
  jdu:=jj (st:=xr) l16 c16 k16
  yl:=⟨a16,n16,k16⟩
  y3:=bn2 (jj (st:=xr) l16 c16 k16) fun _ _ _ _ _ _ _ _=>rfl
  jou:=jj (st:=jc6) l17 c17 k17
  jm9:=⟨a17,n17,k17⟩
  joh:=bn3 (jj (st:=jc6) l17 c17 k17) fun _ _ _ _ _ _ _ _ _=>rfl
  jhv:=jj (st:=vg) l18 c18 k18
  jf3:=⟨a18,n18,k18⟩
  jhw:=bn1 (jj (st:=vg) l18 c18 k18) fun _ _ _ _ _ _ _=>rfl
  jhr:=jj (st:=y9) l19 c19 k19
  jnl:=⟨a19,n19,k19⟩
  j2z:=⟨mk19,a19,n19,mq19⟩
  jht:=bn2 (jj (st:=y9) l19 c19 k19) fun _ _ _ _ _ _ _ _=>rfl
  jiu:=jj (st:=gm) l20 c20 k20
  joj:=⟨a20,n20,k20⟩
  jau:=bn2 (jj (st:=gm) l20 c20 k20) fun _ _ _ _ _ _ _ _=>rfl
  jky:=jj (st:=u3) l21 c21 k21
  jp9:=⟨a21,n21,k21⟩
  jfa:=bn2 (jj (st:=u3) l21 c21 k21) fun _ _ _ _ _ _ _ _=>rfl
  jkw:=jj (st:=uh) l22 c22 k22
  jqd:=⟨a22,n22,k22⟩
  jk3:=bn2 (jj (st:=uh) l22 c22 k22) fun _ _ _ _ _ _ _ _=>rfl
  je6:=jj (st:=yb) l23 c23 k23
  jll:=⟨a23,n23,k23⟩
  jth:=⟨mk23,a23,n23,mq23⟩
  jeq:=bn2 (jj (st:=yb) l23 c23 k23) fun _ _ _ _ _ _ _ _=>rfl
  jf6:=jj (st:=yt) l24 c24 k24
  jet:=⟨a24,n24,k24⟩
  jge:=bn3 (jj (st:=yt) l24 c24 k24) fun _ _ _ _ _ _ _ _ _=>rfl
  jc2:=jj (st:=xf) l25 c25 k25
  gb:=⟨a25,n25,k25⟩
  kh:=bn1 (jj (st:=xf) l25 c25 k25) fun _ _ _ _ _ _ _=>rfl
  jds:=jj (st:=xo) l26 c26 k26
  kj:=⟨a26,n26,k26⟩
  jaa:=bn1 (jj (st:=xo) l26 c26 k26) fun _ _ _ _ _ _ _=>rfl
  jir:=jj (st:=gi) l27 c27 k27
  jhx:=⟨a27,n27,k27⟩
  ji0:=bn1 (jj (st:=gi) l27 c27 k27) fun _ _ _ _ _ _ _=>rfl
  jk7:=jj (st:=uk) l28 c28 k28
  jit:=⟨a28,n28,k28⟩
  jlo:=bn2 (jj (st:=uk) l28 c28 k28) fun _ _ _ _ _ _ _ _=>rfl
  jdk:=jj (st:=xg) l29 c29 k29
  jbw:=⟨a29,n29,k29⟩
  jdl:=bn2 (jj (st:=xg) l29 c29 k29) fun _ _ _ _ _ _ _ _=>rfl
  jf9:=jj (st:=gu) l30 c30 k30
  jma:=⟨a30,n30,k30⟩
  jvm:=⟨mk30,a30,n30,mq30⟩
  jdv:=⟨fun s us ws _ hl=>match us,ws,hl with | [_,_],[_,_,_,_],_=>.of_eq rfl,fun {vs us zs ws} r1 r2=>jzp r1 r2⟩
  jg1:=jj (st:=y6) l31 c31 k31
  gq:=⟨a31,n31,k31⟩
  uj:=bn1 (jj (st:=y6) l31 c31 k31) fun _ _ _ _ _ _ _=>rfl
  jqf:=jj (st:=jaw) l32 c32 k32
  joc:=⟨a32,n32,k32⟩
  jp8:=bn1 (jj (st:=jaw) l32 c32 k32) fun _ _ _ _ _ _ _=>rfl
  ji7:=jj (st:=gj) l33 c33 k33
  jcm:=⟨a33,n33,k33⟩
  jd5:=bn1 (jj (st:=gj) l33 c33 k33) fun _ _ _ _ _ _ _=>rfl
  jeu:=jj (st:=x9) l34 c34 k34
  zd:=⟨a34,n34,k34⟩
  zw:=bn2 (jj (st:=x9) l34 c34 k34) fun _ _ _ _ _ _ _ _=>rfl
  jm7:=jj (st:=ja3) l35 c35 k35
  jcb:=⟨a35,n35,k35⟩
  jdx:=bn2 (jj (st:=ja3) l35 c35 k35) fun _ _ _ _ _ _ _ _=>rfl
  jgq:=jj (st:=vm) l36 c36 k36
  gw:=⟨a36,n36,k36⟩
  uw:=bn2 (jj (st:=vm) l36 c36 k36) fun _ _ _ _ _ _ _ _=>rfl
  jlf:=jj (st:=ui) l37 c37 k37
  jat:=⟨a37,n37,k37⟩
  jcc:=bn2 (jj (st:=ui) l37 c37 k37) fun _ _ _ _ _ _ _ _=>rfl
  jcp:=jj (st:=xh) l38 c38 k38
  wj:=⟨a38,n38,k38⟩
  kb:=bn2 (jj (st:=xh) l38 c38 k38) fun _ _ _ _ _ _ _ _=>rfl
  jcy:=jj (st:=xa) l39 c39 k39
  jb3:=⟨a39,n39,k39⟩
  jcn:=bn3 (jj (st:=xa) l39 c39 k39) fun _ _ _ _ _ _ _ _ _=>rfl
  jcz:=jj (st:=zx) l40 c40 k40
  w4:=⟨a40,n40,k40⟩
  kc:=bn2 (jj (st:=zx) l40 c40 k40) fun _ _ _ _ _ _ _ _=>rfl
  jd1:=jj (st:=xm) l41 c41 k41
  jdn:=⟨a41,n41,k41⟩
  jdr:=bn2 (jj (st:=xm) l41 c41 k41) fun _ _ _ _ _ _ _ _=>rfl
  jbz:=jj (st:=zl) l42 c42 k42
  vp:=⟨a42,n42,k42⟩
  wu:=bn3 (jj (st:=zl) l42 c42 k42) fun _ _ _ _ _ _ _ _ _=>rfl
  je2:=jj (st:=ye) l43 c43 k43
  y0:=⟨a43,n43,k43⟩
  v9:=bn3 (jj (st:=ye) l43 c43 k43) fun _ _ _ _ _ _ _ _ _=>rfl
  joi:=jj (st:=jcg) l44 c44 k44
  jgz:=⟨a44,n44,k44⟩
  jjg:=bn4 (jj (st:=jcg) l44 c44 k44) fun _ _ _ _ _ _ _ _ _ _=>rfl
  jk1:=jj (st:=jac) l45 c45 k45
  jiq:=⟨a45,n45,k45⟩
  jk6:=bn3 (jj (st:=jac) l45 c45 k45) fun _ _ _ _ _ _ _ _ _=>rfl
  jpq:=jj (st:=jct) l46 c46 k46
  jdw:=⟨a46,n46,k46⟩
  jfs:=bn3 (jj (st:=jct) l46 c46 k46) fun _ _ _ _ _ _ _ _ _=>rfl
  jm1:=jj (st:=jbe) l47 c47 k47
  jlk:=⟨a47,n47,k47⟩
  jm3:=bn3 (jj (st:=jbe) l47 c47 k47) fun _ _ _ _ _ _ _ _ _=>rfl
  jnk:=jj (st:=jbb) l48 c48 k48
  jks:=⟨a48,n48,k48⟩
  jni:=bn2 (jj (st:=jbb) l48 c48 k48) fun _ _ _ _ _ _ _ _=>rfl
  jf8:=jj (st:=yu) l49 c49 k49
  jev:=⟨a49,n49,k49⟩
  jgb:=bn1 (jj (st:=yu) l49 c49 k49) fun _ _ _ _ _ _ _=>rfl
  jkm:=jj (st:=jc9) l50 c50 k50
  jo2:=W.mg_of X G a50
  joo:=bn1 (jj (st:=jc9) l50 c50 k50) fun _ _ _ _ _ _ _=>rfl
  qb:=jj (st:=jcq) l51 c51 k51
  qh:=W.mg_of X G a51
  qg:=bn2 (jj (st:=jcq) l51 c51 k51) fun _ _ _ _ _ _ _ _=>rfl
  qz:=jj (st:=jcl) l52 c52 k52
  zi:=W.mg_of X G a52
  zh:=bn2 (jj (st:=jcl) l52 c52 k52) fun _ _ _ _ _ _ _ _=>rfl
  jav:=jj (st:=gd) l53 c53 k53
  jed:=W.mg_of X G a53
  jd2:=bn1 (jj (st:=gd) l53 c53 k53) fun _ _ _ _ _ _ _=>rfl
  jff:=jj (st:=jcu) l54 c54 k54
  jka:=W.mg_of X G a54
  jkl:=bn3 (jj (st:=jcu) l54 c54 k54) fun _ _ _ _ _ _ _ _ _=>rfl
  jgp:=jj (st:=ja5) l55 c55 k55
  jnb:=W.mg_of X G a55
  jmv:=bn1 (jj (st:=ja5) l55 c55 k55) fun _ _ _ _ _ _ _=>rfl
  jfj:=jj (st:=jdb) l56 c56 k56
  jjc:=W.mg_of X G a56
  jjt:=bn5 (jj (st:=jdb) l56 c56 k56) fun _ _ _ _ _ _ _ _ _ _ _=>rfl
  jb7:=jj (st:=jab) l57 c57 k57
  jfb:=W.mg_of X G a57
  jfo:=bn2 (jj (st:=jab) l57 c57 k57) fun _ _ _ _ _ _ _ _=>rfl
  jgr:=jj (st:=ja9) l58 c58 k58
  jm2:=W.mg_of X G a58
  jm6:=bn3 (jj (st:=ja9) l58 c58 k58) fun _ _ _ _ _ _ _ _ _=>rfl
  joz:=jj (st:=jhs) l59 c59 k59
  jte:=W.mg_of X G a59
  jtc:=bn3 (jj (st:=jhs) l59 c59 k59) fun _ _ _ _ _ _ _ _ _=>rfl
  jc1:=jj (st:=y7) l60 c60 k60
  jhf:=W.mg_of X G a60
  jg4:=bn2 (jj (st:=y7) l60 c60 k60) fun _ _ _ _ _ _ _ _=>rfl
  j4e:=jj (st:=jyx) l61 c61 k61
  j3s:=W.mg_of X G a61
  j5x:=bn1 (jj (st:=jyx) l61 c61 k61) fun _ _ _ _ _ _ _=>rfl
  jkg:=⟨_,W.mg_of X G hgc0⟩
  jfz:=⟨_,W.mg_of X G hgc1⟩
  jem:=⟨_,W.mg_of X G hgc2⟩
  jar:=⟨_,W.mg_of X G hgc3⟩
  jkq:=⟨_,W.mg_of X G hgc4⟩
  jqv:=⟨_,W.mg_of X G hgc5⟩
  jf2:=⟨_,W.mg_of X G hgc6⟩
  jis:=⟨_,W.mg_of X G hgc7⟩
  jkp:=⟨_,W.mg_of X G hgc8⟩
  jyd:=W.mg_of X G cm0
  yj:=⟨cg0,ch0,co0,cs0⟩
  x8:=cn0_0
  yo:=cn0_1
  ju2:=W.mg_of X G cm1
  jm:=⟨cg1,ch1,co1,cs1⟩
  xu:=cn1_0
  qw:=cn1_1
  ja2:=cn1_2
  jae:=cn1_3
  yc:=cn1_4
  zv:=cn1_5
  za:=cn1_6
  jxp:=W.mg_of X G cm2
  ji:=⟨cg2,ch2,co2,cs2⟩
  vk:=cn2_0
  ji6:=cn2_1
  jei:=cn2_2
  ya:=cn2_3
  ze:=cn2_4
  yy:=cn2_5
  jas:=cn2_6
  qq:=cn2_7
  j1h:=W.mg_of X G cm3
  j2g:=⟨cg3,ch3,co3,cs3⟩
  jsy:=cn3_0
  jim:=cn3_1
  js5:=cn3_2
  jbu:=⟨ih0,n21,k21⟩
  vz:=⟨ih1,n20,k20⟩
  jgg:=⟨ih2,n22,k22⟩
  jgk:=⟨yp0,yr0,yf0,k19⟩
  jpf:=W.mg_of X G xm0
  joy:=W.mg_of X G xm1
  jrq:=W.mg_of X G xm2
  jdt:=W.mg_of X G xm3
  jvn:=W.mg_of X G xm4
  js3:=W.mg_of X G xm5
  jq0:=W.mg_of X G xm6
  jtn:=W.mg_of X G xm7
  jqj:=W.mg_of X G xm8
  jo8:=W.mg_of X G xm9
  jqo:=W.mg_of X G xm10
  joe:=W.mg_of X G xm11
  jqq:=⟨xg0,xh0,xj0,xp0,xo0,xs0⟩
  jqr:=xk0
  ja7:=xc0_0
  jsc:=xr1
  jqz:=⟨xg1,xh1,xj1,xp1,xo1,xs1⟩
  jqu:=xk1
  jbc:=xc1_0
  jvp:=xr2
  jr9:=⟨xg2,xh2,xj2,xp2,xo2,xs2⟩
  jss:=xk2
  jb2:=xc2_0
  jfd:=xb0
  j5:=W.mg_none_of X G z0
  j1i:=W.mg_none_of X G z1
  j3z:=W.mg_none_of X G z2
  jeo:=W.mg_none_of X G z3
  jub:=W.mg_none_of X G z4
  jk8:=W.mg_none_of X G z5
  jiz:=W.mg_none_of X G z6
  j1v:=W.mg_none_of X G z7
  j4w:=W.mg_none_of X G z8
  j4s:=W.mg_none_of X G z9
  jjj:=W.mg_none_of X G z10
  jm4:=W.mg_none_of X G z11 }
 have e:=hfa.symm.trans T.j3s
 cases e
 exact ⟨_,fun s v=>.of_eq rfl,fun base _ _=>j4t T⟩
end M
/-! The hand-in's compiled file may not be greater than 64 MB. The head makes, beside the heaps and trees that it writes out, second ones that this proof doesn't use, and proofs that grow with the square of their objects; these names, taken ahead, keep it from that. -/
namespace PySem.W.Fast
def tw4066437278974876771 := ()
def tw9712900275359285728 := ()
def tw4614877476725173001 := ()
def tw16493068091023762290 := ()
def tw14462767567254209671 := ()
def tw13956382934105675042 := ()
def tw12124400506361022345 := ()
def tw1730902232395133221 := ()
def tw10212169198227762490 := ()
def tw1468764035764771649 := ()
def tw454210780265394493 := ()
def tw10822061898045922931 := ()
def tw16541549243439244641 := ()
def tw12979808498077200057 := ()
def tw9776734638320332872 := ()
def tw7260103631222628240 := ()
def tw17632681498649471211 := ()
def tw15716562827235911850 := ()
def tw13359854025956151932 := ()
def tw7473349196335799393 := ()
def tw17734916047919018563 := ()
def tw7876474965205548262 := ()
def tw4523891396000793288 := ()
def tw10053886907468120997 := ()
def tw1003216720915633936 := ()
def tw17912011914831010814 := ()
def tw11751067211265307077 := ()
def tw8764270457061357740 := ()
def tw2967274952780101820 := ()
def tw2189407772106313611 := ()
def tw4543826081702167734 := ()
def tw17273192599156262688 := ()
def tw9203615114396589139 := ()
def tw2337551944729055826 := ()
def tw5110826681056379349 := ()
def tw16672420510593054809 := ()
def tw4329753972169523301 := ()
def tw5641166786028202440 := ()
def tw7671049352948491405 := ()
def tw15096640435879256181 := ()
def tw15766339315444210271 := ()
def tw13839813168906802729 := ()
def tw16343558256606420756 := ()
def tw2943828872343085769 := ()
def tw16163613102103524238 := ()
def tw3427502229423371918 := ()
def tw6490649022476937746 := ()
def tw771173076763575135 := ()
def tw583674375186078811 := ()
def tw9741605222711253940 := ()
def tw11951533527552857033 := ()
def tw9258702276738309781 := ()
def tw16922484868370103018 := ()
def tw8570428824243393980 := ()
def tw3860530048773287325 := ()
def tw6654627609074984047 := ()
def tw10202093703079844894 := ()
def tw14180055850331189247 := ()
def tw15840136219926383596 := ()
def tw3798099057780214811 := ()
def tw8661442736401877776 := ()
def tw1712453329907490999 := ()
def tw1048906437393043890 := ()
def tw17019890476983539842 := ()
def tw1112627086321915483 := ()
def tw14685087835855054814 := ()
def tw17935726045299146228 := ()
def tw3699412426837885526 := ()
def tw18012289668002179955 := ()
def tw7000932148460429298 := ()
def tw3930080033586183837 := ()
def tw8710014098084275917 := ()
def tw3393452185511077615 := ()
def tw2270487710179789739 := ()
def tw4878182893714239716 := ()
def tw9594598335259657843 := ()
def tw2412785772798074229 := ()
def tw14417200665685704135 := ()
def tw16354619886330971396 := ()
def tw2915418548304310484 := ()
def tw255519068559162562 := ()
def tw10559876570597330995 := ()
def tw6920294419771465068 := ()
def tw4527992939105107101 := ()
def tw4044999361090943952 := ()
def tw7308452818859444119 := ()
def tw4053885231347744252 := ()
def tw18236925671441097275 := ()
def tw5269573310419184721 := ()
def tw7069807467640007807 := ()
def tw6447547693401394192 := ()
def tw7527814055443610610 := ()
def tw5123901087009414142 := ()
def tw2292501827324878928 := ()
def tw9310185752257400122 := ()
def tw16227717111105590095 := ()
def tw3100671297965989565 := ()
def tw18107919876720860526 := ()
def tw3011883681091829379 := ()
def tw1078774770797961813 := ()
def tw10623363590016847570 := ()
def tw12648948337323494340 := ()
def tw1373333010887728430 := ()
def tw12851605493803602463 := ()
def tw2117487131632066484 := ()
def tw8064299963333457768 := ()
def tw14499704503979704375 := ()
def tw16541465808078305754 := ()
def tw829706276638807281 := ()
def tw232180636800230496 := ()
def tw14730210314100075573 := ()
def tw1612064450556456753 := ()
def tw16281007871367160680 := ()
def tw11831048118365372595 := ()
def tw1254231438664460836 := ()
def tw15682775377289742327 := ()
def tw4770905917089707091 := ()
def tw15112998692504484514 := ()
def tw8302942902831895493 := ()
def tw1446284626708680607 := ()
def tw14221440200233329634 := ()
def tw8208446679575633473 := ()
def tw14940220434274868727 := ()
def tw9511945669572616433 := ()
def tw14065854459128225684 := ()
def tw17422349441225639467 := ()
def tw18122742702549591922 := ()
def tw4640577383986483822 := ()
def tw3122177057712346039 := ()
def tw7692176495399675908 := ()
def tw10497656035490491538 := ()
def tw12140126915706489892 := ()
def tw11040591416426812789 := ()
def tw18205403115303537406 := ()
def tw6153807187099307096 := ()
def tw13040722656814572581 := ()
def tw1422539756473113784 := ()
def tw1777178497948045705 := ()
def tw14858065666298184963 := ()
def tw6973120128253796360 := ()
def tw13299242743198337369 := ()
def tw15307802843755919051 := ()
def tw7304697064863466405 := ()
def tw11946923444005575350 := ()
def tw18318140203907579161 := ()
def tw2817481852133077600 := ()
def tw2704423460487426004 := ()
def tw25825878077135182 := ()
def tw3249857419589295403 := ()
def tw15507559620050417204 := ()
def tw3092933072141660786 := ()
def tw1364476460504418547 := ()
def tw12322547275781741648 := ()
def tw252523666707647577 := ()
def tw8611314949944299682 := ()
def tw3933221130276338187 := ()
def tw17286558051372285354 := ()
def tw7807704201634301521 := ()
def tw12252537110780360414 := ()
def tw5112945365694026810 := ()
def tw6341815261867179715 := ()
def tw3755936997590871724 := ()
def tw13036539240953542675 := ()
def tw9384254003079134916 := ()
def tw594031331456222030 := ()
def tw5325168060745035381 := ()
def tw9209078450558752255 := ()
def tw7216755672768627278 := ()
def tw3046145828477739417 := ()
def tw14772984211875720113 := ()
def tw9281467482330552857 := ()
def tw15444903078056823281 := ()
def tw6827254228928331885 := ()
def tw17795286928254614379 := ()
def tw2571304007869792690 := ()
def tw3055466296069963764 := ()
def tw5660259622625612393 := ()
def tw4312801703250257173 := ()
def tw17306501778384964024 := ()
def tw5618936566768619018 := ()
def tw4790469402138115212 := ()
def tw3890740040546301584 := ()
def tw2367326594999328950 := ()
def tw14468457958565942389 := ()
def tw15187787605467476099 := ()
def tw11532363786456103636 := ()
def tw7353246742740919457 := ()
def tw7744460858068121219 := ()
def tw16242813236663419169 := ()
def tw11795171575176663561 := ()
def tw3109852829508231537 := ()
def tw1614860759947088910 := ()
def tw570842716553752224 := ()
def tw16615580092908954342 := ()
def tw8503888097607682969 := ()
def tw4722568421241494433 := ()
def tw11912513703401864971 := ()
def tw8673952577210315145 := ()
def tw2133850956743403296 := ()
def tw636157802841820795 := ()
def tw8799623886308118775 := ()
def tw3255905692513990910 := ()
def tw5726634125667489046 := ()
def tw14294891173252800592 := ()
def tw4077590595118241559 := ()
def tw9607554985529732524 := ()
def tw13182479141956996077 := ()
def tw5591908564558443301 := ()
def tw8839865915074781664 := ()
def tw10481163104550005601 := ()
def tw9370215497226238049 := ()
def tw6983214037523359104 := ()
def tw10922830337513212592 := ()
def tw2030614418504370642 := ()
def tw1393800436349627702 := ()
def tw2701366026894286021 := ()
def tw11666091764592602052 := ()
def tw17790123232360441625 := ()
def tw13272164551820354683 := ()
def tw4510412864924925517 := ()
def tw9032147248218653679 := ()
def tw6716313314004695297 := ()
def tw13867715438405205008 := ()
def tw17836109850896695177 := ()
def tw65705529032159748 := ()
def tw12726151024142792427 := ()
def tw13539232762433845465 := ()
def tw11540226733034445268 := ()
def tw4823243450366388512 := ()
def tw7578419826753375045 := ()
def tw9301218847278567835 := ()
def tw5466465900617395888 := ()
def tw17532142663516287836 := ()
def tw12277727035829127277 := ()
def tw4775371775338150054 := ()
def tw13155623731208963144 := ()
def tw1167991463934826506 := ()
def tw1599772630254062518 := ()
def tw12816267408877385247 := ()
def tw8937487569492076380 := ()
def tw13591937675884951143 := ()
def tw3344742256314474408 := ()
def tw10683974845395372380 := ()
def tw1857366544807840540 := ()
def tw15008590014184984053 := ()
def tw8799374175270418408 := ()
def tw2728573984220653655 := ()
def tw16111589814098441024 := ()
def tw5160923642508847315 := ()
def tw6629667360843814287 := ()
def tw9779105310694473308 := ()
def tw16543282352974431697 := ()
def tw3826493175631712292 := ()
def tw2041704079139928628 := ()
def tw3351006409259482183 := ()
def tw17289187129188953833 := ()
def tw17215923855726054426 := ()
def tw14943241973299488635 := ()
def tw11030812960538957367 := ()
def tw2658241980049387346 := ()
def tw16914445807394976301 := ()
def tw8409285276288827840 := ()
def tw10350762111508761651 := ()
def tw15227993611749859770 := ()
def tw9036970036316177771 := ()
end PySem.W.Fast
open PySem PySem.W PyProof.Rows
set_option maxRecDepth 100000 in
set_option maxHeartbeats 0 in
theorem PySem.Challenge.cw_manypurses_k05_whole_all_alike_holds : PySem.Challenge.rw_manypurses_k05_whole_all_alike.Holds := by
  w_on; o_law; k_head; (case hw=>w_witness2)
  k_fill
  refine L2.jzg (l:=PySem.Challenge.rw_manypurses_k05_whole_all_alike) (n:=63) (k:=12) (x := "_law_script") (CX:=L2.CX0) (sp:=M.jyr) rfl (by decide) rfl ⟨rfl,by decide,by decide⟩ (fun w h Y=>PySem.W.kIn_of Y) ?F ?S ?C
  case F=>
    intro w mg fa h KX G hmg
    refine' M.all_mk KX G hmg ?cm0 ?cg0 ?ch0 ?co0 ?cs0 ?cn0_0 ?cn0_1 ?cm1 ?cg1 ?ch1 ?co1 ?cs1 ?cn1_0 ?cn1_1 ?cn1_2 ?cn1_3 ?cn1_4 ?cn1_5 ?cn1_6 ?cm2 ?cg2 ?ch2 ?co2 ?cs2 ?cn2_0 ?cn2_1 ?cn2_2 ?cn2_3 ?cn2_4 ?cn2_5 ?cn2_6 ?cn2_7 ?cm3 ?cg3 ?ch3 ?co3 ?cs3 ?cn3_0 ?cn3_1 ?cn3_2 ?xm0 ?xm1 ?xm2 ?xm3 ?xm4 ?xm5 ?xm6 ?xm7 ?xm8 ?xm9 ?xm10 ?xm11 ?a0 ?l0 ?c0 ?k0 ?a1 ?l1 ?c1 ?k1 ?a2 ?l2 ?c2 ?k2 ?e2 ?a3 ?l3 ?c3 ?k3 ?a4 ?l4 ?c4 ?k4 ?a5 ?l5 ?c5 ?k5 ?a6 ?l6 ?c6 ?k6 ?a7 ?l7 ?c7 ?k7 ?a8 ?l8 ?c8 ?k8 ?a9 ?l9 ?c9 ?k9 ?a10 ?l10 ?c10 ?k10 ?a11 ?l11 ?c11 ?k11 ?a12 ?l12 ?c12 ?k12 ?xrn12 ?xd12a ?xd12b ?xd12c ?xd12d ?a13 ?l13 ?c13 ?k13 ?a14 ?l14 ?c14 ?k14 ?a15 ?n15 ?mk15 ?mq15 ?l15 ?c15 ?k15 ?a16 ?n16 ?l16 ?c16 ?k16 ?a17 ?n17 ?l17 ?c17 ?k17 ?a18 ?n18 ?l18 ?c18 ?k18 ?a19 ?n19 ?mk19 ?mq19 ?l19 ?c19 ?k19 ?a20 ?n20 ?l20 ?c20 ?k20 ?a21 ?n21 ?l21 ?c21 ?k21 ?a22 ?n22 ?l22 ?c22 ?k22 ?a23 ?n23 ?mk23 ?mq23 ?l23 ?c23 ?k23 ?a24 ?n24 ?l24 ?c24 ?k24 ?a25 ?n25 ?l25 ?c25 ?k25 ?a26 ?n26 ?l26 ?c26 ?k26 ?a27 ?n27 ?l27 ?c27 ?k27 ?a28 ?n28 ?l28 ?c28 ?k28 ?a29 ?n29 ?l29 ?c29 ?k29 ?a30 ?n30 ?mk30 ?mq30 ?l30 ?c30 ?k30 ?a31 ?n31 ?l31 ?c31 ?k31 ?a32 ?n32 ?l32 ?c32 ?k32 ?a33 ?n33 ?l33 ?c33 ?k33 ?a34 ?n34 ?l34 ?c34 ?k34 ?a35 ?n35 ?l35 ?c35 ?k35 ?a36 ?n36 ?l36 ?c36 ?k36 ?a37 ?n37 ?l37 ?c37 ?k37 ?a38 ?n38 ?l38 ?c38 ?k38 ?a39 ?n39 ?l39 ?c39 ?k39 ?a40 ?n40 ?l40 ?c40 ?k40 ?a41 ?n41 ?l41 ?c41 ?k41 ?a42 ?n42 ?l42 ?c42 ?k42 ?a43 ?n43 ?l43 ?c43 ?k43 ?a44 ?n44 ?l44 ?c44 ?k44 ?a45 ?n45 ?l45 ?c45 ?k45 ?a46 ?n46 ?l46 ?c46 ?k46 ?a47 ?n47 ?l47 ?c47 ?k47 ?a48 ?n48 ?l48 ?c48 ?k48 ?a49 ?n49 ?l49 ?c49 ?k49 ?a50 ?l50 ?c50 ?k50 ?a51 ?l51 ?c51 ?k51 ?a52 ?l52 ?c52 ?k52 ?a53 ?l53 ?c53 ?k53 ?a54 ?l54 ?c54 ?k54 ?a55 ?l55 ?c55 ?k55 ?a56 ?l56 ?c56 ?k56 ?a57 ?l57 ?c57 ?k57 ?a58 ?l58 ?c58 ?k58 ?a59 ?l59 ?c59 ?k59 ?a60 ?l60 ?c60 ?k60 ?a61 ?l61 ?c61 ?k61 ?ih0 ?ih1 ?ih2 ?yp0 ?yr0 ?yf0 ?hgc0 ?hgc1 ?hgc2 ?hgc3 ?hgc4 ?hgc5 ?hgc6 ?hgc7 ?hgc8 ?xg0 ?xh0 ?xj0 ?xp0 ?xo0 ?xs0 ?xk0 ?xc0_0 ?xr1 ?xg1 ?xh1 ?xj1 ?xp1 ?xo1 ?xs1 ?xk1 ?xc1_0 ?xr2 ?xg2 ?xh2 ?xj2 ?xp2 ?xo2 ?xs2 ?xk2 ?xc2_0 ?xb0 ?z0 ?z1 ?z2 ?z3 ?z4 ?z5 ?z6 ?z7 ?z8 ?z9 ?z10 ?z11
    (case cm0 | cg0 | ch0 | co0 | cs0 | cn0_0 | cn0_1 | cm1 | cg1 | ch1 | co1 | cs1 | cn1_0 | cn1_1 | cn1_2 | cn1_3 | cn1_4 | cn1_5 | cn1_6 | cm2 | cg2 | ch2 | co2 | cs2 | cn2_0 | cn2_1 | cn2_2 | cn2_3 | cn2_4 | cn2_5 | cn2_6 | cn2_7 | cm3 | cg3 | ch3 | co3 | cs3 | cn3_0 | cn3_1 | cn3_2=>show _ = _; k_is)
    (case xm0 | xm1 | xm2 | xm3 | xm4 | xm5 | xm6 | xm7 | xm8 | xm9 | xm10 | xm11 | a0 | l0 | c0 | k0 | a1 | l1 | c1 | k1 | a2 | l2 | c2 | k2 | e2 | a3 | l3 | c3 | k3 | a4 | l4 | c4 | k4 | a5 | l5 | c5 | k5 | a6 | l6 | c6=>show _ = _; k_is)
    (case k6 | a7 | l7 | c7 | k7 | a8 | l8 | c8 | k8 | a9 | l9 | c9 | k9 | a10 | l10 | c10 | k10 | a11 | l11 | c11 | k11 | a12 | l12 | c12 | k12=>show _ = _; k_is)
    (case xrn12=>kernel_rfl)
    (case xd12a | xd12b | xd12c | xd12d | a13 | l13 | c13 | k13 | a14 | l14 | c14 | k14 | a15 | n15 | mk15 | mq15 | l15 | c15 | k15 | a16 | n16 | l16 | c16 | k16 | a17 | n17 | l17 | c17 | k17 | a18 | n18 | l18 | c18 | k18 | a19 | n19 | mk19 | mq19 | l19 | c19=>show _ = _; k_is)
    (case k19 | a20 | n20 | l20 | c20 | k20 | a21 | n21 | l21 | c21 | k21 | a22 | n22 | l22 | c22 | k22 | a23 | n23 | mk23 | mq23 | l23 | c23 | k23 | a24 | n24 | l24 | c24 | k24 | a25 | n25 | l25 | c25 | k25 | a26 | n26 | l26 | c26 | k26 | a27 | n27=>show _ = _; k_is)
    (case l27 | c27 | k27 | a28 | n28 | l28 | c28 | k28 | a29 | n29 | l29 | c29 | k29 | a30 | n30 | mk30 | mq30 | l30 | c30 | k30 | a31 | n31 | l31 | c31 | k31 | a32 | n32 | l32 | c32 | k32 | a33 | n33 | l33 | c33 | k33 | a34 | n34 | l34 | c34 | k34=>show _ = _; k_is)
    (case a35 | n35 | l35 | c35 | k35 | a36 | n36 | l36 | c36 | k36 | a37 | n37 | l37 | c37 | k37 | a38 | n38 | l38 | c38 | k38 | a39 | n39 | l39 | c39 | k39 | a40 | n40 | l40 | c40 | k40 | a41 | n41 | l41 | c41 | k41 | a42 | n42 | l42 | c42 | k42=>show _ = _; k_is)
    (case a43 | n43 | l43 | c43 | k43 | a44 | n44 | l44 | c44 | k44 | a45 | n45 | l45 | c45 | k45 | a46 | n46 | l46 | c46 | k46 | a47 | n47 | l47 | c47 | k47 | a48 | n48 | l48 | c48 | k48 | a49 | n49 | l49 | c49 | k49 | a50 | l50 | c50 | k50 | a51=>show _ = _; k_is)
    (case l51 | c51 | k51 | a52 | l52 | c52 | k52 | a53 | l53 | c53 | k53 | a54 | l54 | c54 | k54 | a55 | l55 | c55 | k55 | a56 | l56 | c56 | k56 | a57 | l57 | c57 | k57 | a58 | l58 | c58 | k58 | a59 | l59 | c59 | k59 | a60 | l60 | c60 | k60 | a61=>show _ = _; k_is)
    (case l61 | c61 | k61 | ih0 | ih1 | ih2=>show _ = _; k_is)
    (case yp0 | yr0 | yf0=>kernel_rfl)
    (case hgc0 | hgc1 | hgc2 | hgc3 | hgc4 | hgc5 | hgc6 | hgc7 | hgc8 | xg0 | xh0 | xj0 | xp0 | xo0=>show _ = _; k_is)
    (case xs0 | xk0 | xc0_0 | xr1=>kernel_rfl)
    (case xg1 | xh1 | xj1 | xp1 | xo1=>show _ = _; k_is)
    (case xs1 | xk1 | xc1_0 | xr2=>kernel_rfl)
    (case xg2 | xh2 | xj2 | xp2 | xo2=>show _ = _; k_is)
    (case xs2 | xk2 | xc2_0=>kernel_rfl)
    (case xb0 | z0 | z1 | z2 | z3 | z4 | z5 | z6 | z7 | z8 | z9 | z10 | z11=>show _ = _; k_is)
  case S=>exact fun K H a ns hl _ hS=>⟨a,ns,rfl,hS,hl,fun _=>rfl⟩
  case C=>exact fun _ _ _ _ z=>z
